import PyProof.Rows.All
import Wide.All
import OpenK.AllK
import Wide.FinOn
import PyProof.EqAt
import PyProof.EqKinds
import PyProof.TupleCall
import KE.BitLaws
import KE.OsGo
import PySem.Challenge.RW_scorebook_s01_answers
set_option linter.all false
set_option Elab.async false
set_option maxRecDepth 100000
set_option maxHeartbeats 4000000
namespace L2
open PySem PySem.Spec PyProof.Rows
noncomputable abbrev Key:=Sum Int Str
noncomputable def PY:Key→Value→Bool
 |.inl k,v=>Value.isInt k v
 |.inr x,v=>Value.isStrOf x v
noncomputable def Sw(w:World):Key→Int
 |.inl k=>hashInt k
 |.inr x=>hashStr w x
theorem f6:∀{k:Key}{v:Value},PY k v=true→(∃ i t,k=Sum.inl i∧v=Value.int i t)∨(∃ x t,k=Sum.inr x∧v=Value.str x t)
 |.inl i,v,h=>by
  obtain⟨t,e⟩:=Value.isInt_shape (k:=i) (v:=v) h;exact .inl ⟨i,t,rfl,e⟩
 |.inr x,v,h=>by
  obtain⟨t,e⟩:=Value.isStrOf_shape (x:=x) (v:=v) h;exact .inr ⟨x,t,rfl,e⟩
theorem Qh(a b:Int):decide ((Sum.inl a:Key)=Sum.inl b)=(a==b):=by
 by_cases e:a=b
 ·subst e;simp
 ·have h:¬(Sum.inl a:Key)=Sum.inl b:=fun q=>e (Sum.inl.inj q)
  rw[decide_eq_false h];exact (beq_eq_false_iff_ne.mpr e).symm
theorem Qk(a b:Str):decide ((Sum.inr a:Key)=Sum.inr b)=decide (a=b):=by
 by_cases e:a=b
 ·subst e;simp
 ·have h:¬(Sum.inr a:Key)=Sum.inr b:=fun q=>e (Sum.inr.inj q)
  rw[decide_eq_false h,decide_eq_false e]
theorem P9(a:Int)(b:Str):decide ((Sum.inl a:Key)=Sum.inr b)=false:=decide_eq_false (fun q=>nomatch q)
theorem QK(a:Str)(b:Int):decide ((Sum.inr a:Key)=Sum.inl b)=false:=decide_eq_false (fun q=>nomatch q)
noncomputable def LK(prog:Program)(w:World):PySem.KeyKind prog w Key where
 is:=PY
 hash:=Sw w
 inj:=fun v a b ha hb=>by
  rcases f6 ha with⟨i,t,rfl,rfl⟩|⟨x,t,rfl,rfl⟩
  ·rcases f6 hb with⟨j,u,rfl,e⟩|⟨y,u,rfl,e⟩
   ·injection e with e1 _;rw[e1]
   ·exact nomatch e
  ·rcases f6 hb with⟨j,u,rfl,e⟩|⟨y,u,rfl,e⟩
   ·exact nomatch e
   ·injection e with e1 _;rw[e1]
 byValue:=fun k v h=>by
  rcases f6 h with⟨i,t,rfl,rfl⟩|⟨x,t,rfl,rfl⟩<;>rfl
 pyHash:=fun hv h=>by
  rcases f6 hv with⟨i,t,rfl,rfl⟩|⟨x,t,rfl,rfl⟩
  ·exact wpAny_pyHash_int h
  ·exact wpAny_pyHash_str h
 eqBool:=fun hu hv h=>by
  rcases f6 hu with⟨i,t,rfl,rfl⟩|⟨x,t,rfl,rfl⟩
  ·rcases f6 hv with⟨j,u,rfl,rfl⟩|⟨y,u,rfl,rfl⟩
   ·rw[Qh]at h;exact wpAny_eqBool_int h
   ·rw[P9]at h;exact SeqAt.EqAt.int_str i t y u _ _ _ _ h
  ·rcases f6 hv with⟨j,u,rfl,rfl⟩|⟨y,u,rfl,rfl⟩
   ·rw[QK]at h;exact SeqAt.EqAt.str_int x t j u _ _ _ _ h
   ·rw[Qk]at h;exact wpAny_eqBool_str h
 «strs»:=fun k x t v h=>by
  rcases f6 h with⟨i,u,rfl,e⟩|⟨y,u,rfl,e⟩
  ·exact nomatch e
  ·injection e with e1 _
   subst e1
   cases v<;>rfl
end L2
namespace L2
open PySem PySem.Spec PyProof.Rows
inductive V where
 |non|bl (b:Bool)|int (i:Int)|str (x:Str)|byt (b:Array UInt8)|flt (b:UInt64)|ref (a:Addr)|ty (n:String)
 deriving DecidableEq
noncomputable def RelV:V→Value→Prop
 |.non,u=>u=Value.none
 |.bl b,u=>u=Value.bool b
 |.int i,u=>∃ t,u=Value.int i t
 |.str x,u=>∃ t,u=Value.str x t
 |.byt b,u=>∃ t,u=Value.bytes b t
 |.flt b,u=>∃ t,u=Value.float b t
 |.ref a,u=>u=Value.ref a
 |.ty n,u=>u=Value.type n
noncomputable abbrev Vals:List V→List Value→Prop:=Paired RelV
theorem Vals.length{xs:List V}{us:List Value}(r:Vals xs us):xs.length=us.length:=Paired.length r
theorem Vals.get:∀{xs:List V}{us:List Value}{i:Nat}{x:V},Vals xs us→xs[i]?=some x→∃ u,us[i]?=some u∧RelV x u
 |_,_,_,_,.nil,e=>by simp at e
 |_,_,0,_,.cons r _,e=>by simp at e;subst e;exact⟨_,rfl,r⟩
 |_,_,i+1,x,.cons _ t,e=>by
  obtain⟨u,h1,h2⟩:=Vals.get (i:=i) (x:=x) t (by simpa using e);exact⟨u,by simpa using h1,h2⟩
theorem Vals.set{x:V}{u:Value}(r:RelV x u):∀{xs:List V}{us:List Value}(i:Nat),Vals xs us→Vals (xs.set i x) (us.set i u)
 |_,_,_,.nil=>.nil
 |_,_,0,.cons _ t=>.cons r t
 |_,_,i+1,.cons q t=>.cons q (Vals.set r i t)
theorem Vals.append:∀{xs ys:List V}{us ws:List Value},Vals xs us→Vals ys ws→Vals (xs++ys) (us++ws)
 |_,_,_,_,.nil,s=>s
 |_,_,_,_,.cons r t,s=>.cons r (Vals.append t s)
theorem Vals.take:∀{xs:List V}{us:List Value}(n:Nat),Vals xs us→Vals (xs.take n) (us.take n)
 |_,_,0,_=>.nil
 |_,_,_+1,.nil=>.nil
 |_,_,n+1,.cons r t=>.cons r (Vals.take n t)
theorem Vals.drop:∀{xs:List V}{us:List Value}(n:Nat),Vals xs us→Vals (xs.drop n) (us.drop n)
 |_,_,0,r=>r
 |_,_,_+1,.nil=>.nil
 |_,_,n+1,.cons _ t=>Vals.drop n t
noncomputable def F1:Option V→Option Value→Prop
 |some v,some u=>RelV v u
 |none,none=>True
 |_,_=>False
noncomputable def KV{κ:Type}:List (κ×V)→List (κ×Value)→Prop:=Paired fun(p:κ×V) (q:κ×Value)=>p.1=q.1∧RelV p.2 q.2
noncomputable def kV:Key→V
 |.inl i=>.int i
 |.inr x=>.str x
inductive HO where
 |lst (xs:List V)
 |tup (xs:List V)
 |dK (kvs:List (Key×V))|dT (kvs:List (List Key×V))
 |set (S:Int→Bool) (n:Nat)
 |ins (C dx:Addr) (fs:List (Str×V))
 |own (x:Addr)
 |xd (fs:List (Str×V))
 |met (f x:Addr)
 |rng (lo hi:Int)
 |frz (o:Obj) (u:HO)
 |OB (ps:Array Value)
 |ext (φ:Heap→Prop)
noncomputable abbrev Hp:=Addr→Option HO
noncomputable def upd(H:Hp)(a:Addr)(o:HO):Hp:=fun b=>if b=a then some o else H b
theorem aa{H:Hp}{a:Addr}{o:HO}:upd H a o a=some o:=by unfold upd;rw[if_pos rfl]
theorem ax{H:Hp}{a b:Addr}{o:HO}(h:b≠a):upd H a o b=H b:=by unfold upd;rw[if_neg h]
theorem jz{H:Hp}{a:Addr}{o u:HO}:upd (upd H a o) a u=upd H a u:=by
 funext b;unfold upd;split<;>rfl
theorem PQ{H:Hp}{a b:Addr}{o u:HO}(h:H a=some o)(h':H b=some u)(d:o≠u):a≠b:=by
 intro e;subst e;rw[h]at h';exact d (Option.some.inj h')
theorem aQ{H:Hp}{a b:Addr}{o:HO}(h:H a=some o)(h':H b=none):a≠b:=by
 intro e;subst e;rw[h]at h';cases h'
section
variable(P:Program)(w:World)
noncomputable def qR(H:Hp)(h:Heap)(a:Addr):HO→Prop
 |.lst xs=>xs.length≤sizeLine∧∃(its:List Value)(n:Nat),Vals xs its∧h.get? a=some { cls:=.type "list",data:=.seq its.toArray n }
 |.tup xs=>xs.length≤sizeLine∧∃ its:List Value,Vals xs its∧IsTup h a its.toArray
 |.dK kvs=>kvs.length≤sizeLine∧(a==sysModules)=false∧∃ vs,KV kvs vs∧h.DictOf (LK P w) a vs
 |.dT kvs=>kvs.length≤sizeLine∧(a==sysModules)=false∧∃ xs:List (List Key×Addr×Value),
   Paired (fun(p:List Key×V) (q:List Key×Addr×Value)=>p.1=q.1∧H q.2.1=some (.tup (p.1.map kV))∧RelV p.2 q.2.2) kvs xs∧
   ∃ o es ep,h.get? a=some o∧o.ExactDict∧o.data=.dict es ep∧es.toList=xs.map (entryOfKey (tupleKind (LK P w)))∧(xs.map (·.1)).Nodup
 |.set S n=>h.SetOf (intKind P w) a S n
 |.ins C dx fs=>H dx=some (.own a)∧fs.length≤1000∧dx≠a∧h.get? a=some (PySem.W.instObj C dx)∧
   ∃ mA,h.Ns1 dx mA∧(∀ f,F1 (fs.lookup f) (mA f))∧PySem.Within mA (fs.map (·.1))
 |.own _=>∃ o,h.get? a=some o
 |.xd fs=>∃ mA,h.Ns1 a mA∧∀ f,F1 (fs.lookup f) (mA f)
 |.rng lo hi=>∃ t u v,h.get? a=some { cls:=.type "range",data:=.fields #[.int lo t,.int hi u,.int 1 v] }
 |.frz o u=>h.get? a=some o∧qR H h a u
 |.OB ps=>h.get? a=some { cls:=.none,data:=.fields ps }
 |.met f x=>h.get? a=some (PySem.W.methodObj (.ref f) (.ref x))
 |.ext φ=>φ h∧(∃ o,h.get? a=some o)∧∀ h1 h2:Heap,φ h1→(∀ o,h1.get? a=some o→h2.get? a=some o)→φ h2
def Cc(H:Hp)(h:Heap):Prop:=∀ a o,H a=some o→qR P w H h a o
end
section
variable{P:Program}{w:World}{H H':Hp}{h h':Heap}{a:Addr}{o:HO}
theorem qR.lt(x:qR P w H h a o):a<h.objs.size:=by
 cases o with
 |lst xs=>obtain⟨_,_,_,_,e⟩:=x;exact Heap.lt_size e
 |tup xs=>obtain⟨_,_,_,p⟩:=x;exact p.lt
 |dK kvs=>obtain⟨_,_,_,_,o,_,_,e,_⟩:=x;exact Heap.lt_size e
 |dT kvs=>obtain⟨_,_,_,_,o,_,_,e,_⟩:=x;exact Heap.lt_size e
 |set S n=>obtain⟨o,_,_,_,e,_⟩:=x;exact Heap.lt_size e
 |ins C dx fs=>obtain⟨_,_,_,e,_⟩:=x;exact Heap.lt_size e
 |own y=>obtain⟨_,e⟩:=x;exact Heap.lt_size e
 |xd fs=>obtain⟨_,⟨_,_,_,e,_⟩,_⟩:=x;exact Heap.lt_size e
 |rng lo hi=>obtain⟨_,_,_,e⟩:=x;exact Heap.lt_size e
 |frz ob u=>obtain⟨e,_⟩:=x;exact Heap.lt_size e
 |OB ps=>exact Heap.lt_size (show h.get? a=some _ from x)
 |met f y=>exact Heap.lt_size (show h.get? a=some _ from x)
 |ext φ=>obtain⟨_,⟨_,e⟩,_⟩:=x;exact Heap.lt_size e
theorem Paired.Q3{α β:Type}{F G:α→β→Prop}:∀{l₁:List α}{l₂:List β},Paired F l₁ l₂→(∀ a b,F a b→G a b)→Paired G l₁ l₂
 |_,_,.nil,_=>.nil
 |_,_,.cons r t,f=>.cons (f _ _ r) (Paired.Q3 t f)
theorem qR.Nk(x:qR P w H h a o)(k:∀ b u,(b=a∨H b=some (.own a))→h.get? b=some u→h'.get? b=some u)
  (ho:∀ b,H b=some (.own a)→H' b=some (.own a)) (ht:∀ b xs,H b=some (.tup xs)→H' b=some (.tup xs)):qR P w H' h' a o:=by
 induction o with
 |lst xs=>obtain⟨z,its,n,r,e⟩:=x;exact⟨z,its,n,r,k _ _ (.inl rfl) e⟩
 |tup xs=>obtain⟨z,its,r,ob,e,c⟩:=x;exact⟨z,its,r,ob,k _ _ (.inl rfl) e,c⟩
 |dK kvs=>obtain⟨z,y,vs,r,ob,es,ep,e,c⟩:=x;exact⟨z,y,vs,r,ob,es,ep,k _ _ (.inl rfl) e,c⟩
 |dT kvs=>
  obtain⟨z,y,xs,r,ob,es,ep,e,c⟩:=x;exact⟨z,y,xs,Paired.Q3 r fun p q z=>⟨z.1,ht _ _ z.2.1,z.2.2⟩,ob,es,ep,k _ _ (.inl rfl) e,c⟩
 |set S n=>obtain⟨ob,es,ep,t,e,c⟩:=x;exact⟨ob,es,ep,t,k _ _ (.inl rfl) e,c⟩
 |ins C dx fs=>
  obtain⟨d,z,ne,e,mA,⟨od,es,ep,e2,c⟩,r⟩:=x;exact⟨ho _ d,z,ne,k _ _ (.inl rfl) e,mA,⟨od,es,ep,k _ _ (.inr d) e2,c⟩,r⟩
 |own y=>obtain⟨ob,e⟩:=x;exact⟨ob,k _ _ (.inl rfl) e⟩
 |xd fs=>obtain⟨mA,⟨od,es,ep,e,c⟩,r⟩:=x;exact⟨mA,⟨od,es,ep,k _ _ (.inl rfl) e,c⟩,r⟩
 |rng lo hi=>obtain⟨t,u,v,e⟩:=x;exact⟨t,u,v,k _ _ (.inl rfl) e⟩
 |frz ob u ih=>obtain⟨e,q⟩:=x;exact⟨k _ _ (.inl rfl) e,ih q⟩
 |OB ps=>
  have e:h.get? a=some { cls:=.none,data:=.fields ps }:=x;show h'.get? a=some { cls:=.none,data:=.fields ps };exact k a _ (.inl rfl) e
 |met f y=>
  have e:h.get? a=some (PySem.W.methodObj (.ref f) (.ref y)):=x;show h'.get? a=some (PySem.W.methodObj (.ref f) (.ref y));exact k a _ (.inl rfl) e
 |ext φ=>obtain⟨p,⟨o,e⟩,st⟩:=x;exact⟨st _ _ p fun o q=>k _ _ (.inl rfl) q,⟨o,k _ _ (.inl rfl) e⟩,st⟩
theorem Cc.lt(x:Cc P w H h)(e:H a=some o):a<h.objs.size:=(x a o e).lt
theorem Cc.fresh(x:Cc P w H h)(e:h.objs.size≤a):H a=none:=by
 cases q:H a with
 |none=>rfl
 |some u=>exact absurd (Nat.lt_of_lt_of_le (x.lt q) e) (Nat.lt_irrefl _)
theorem Cc.kept(x:Cc P w H h)(k:∀ b u,h.get? b=some u→h'.get? b=some u):Cc P w H h':=fun a o e=>
 (x a o e).Nk (fun b u _ q=>k b u q) (fun _ q=>q) fun _ _ q=>q
theorem Cc.laid(x:Cc P w H h)(k:∀ b u,h.get? b=some u→h'.get? b=some u)(hp:h.objs.size≤a)(new:qR P w (upd H a o) h' a o):Cc P w (upd H a o) h':=fun b u e=>by
 have hn:=x.fresh hp;by_cases hb:b=a
 ·subst hb;rw[aa]at e;cases e;exact new
 ·rw[ax hb]at e;exact (x b u e).Nk (fun c v _ q=>k c v q) (fun c q=>by rw[ax (aQ q hn)];exact q) fun c xs q=>by rw[ax (aQ q hn)];exact q
end
def Rd(H:Hp)(a:Addr)(u:HO):Prop:=H a=some u∨∃ o,H a=some (.frz o u)
theorem Rd.ok{P:Program}{w:World}{H:Hp}{h:Heap}{a:Addr}{u:HO}(r:Rd H a u)(x:Cc P w H h):qR P w H h a u:=by
 rcases r with r|⟨o,r⟩
 ·exact x a u r
 ·obtain⟨_,q⟩:=x a _ r;exact q
noncomputable def RR:Option HO→Prop
 |some (.lst _)=>True
 |some (.dK _)=>True
 |some (.dT _)=>True
 |some (.set _ _)=>True
 |some (.ins _ _ _)=>True
 |some (.ext _)=>True
 |_=>False
section
variable{P:Program}{w:World}{H:Hp}{h h':Heap}{x e:Addr}{o':HO}
theorem Cc.write(ok:Cc P w H h)(mu:RR (H x))(he:e=x∨H e=some (.own x))(k:∀ b u,b≠e→h.get? b=some u→h'.get? b=some u)(heo:∃ u,h'.get? e=some u)
  (new:qR P w (upd H x o') h' x o'):Cc P w (upd H x o') h':=fun b u q=>by
 have nown:∀ c y,H c=some (.own y)→c≠x:=fun c y r z=>by subst z;rw[r]at mu;exact mu
 have ntup:∀ c xs,H c=some (.tup xs)→c≠x:=fun c xs r z=>by subst z;rw[r]at mu;exact mu
 by_cases hb:b=x
 ·subst hb;rw[aa]at q;cases q;exact new
 ·rw[ax hb]at q;by_cases hbe:b=e
  ·have q':H b=some (.own x):=by
    rcases he with z|z
    ·exact absurd (hbe.trans z) hb
    ·rw[hbe];exact z
   rw[q]at q';cases q';obtain⟨v,hv⟩:=heo;exact⟨v,by rw[hbe];exact hv⟩
  ·refine (ok b u q).Nk (fun c v hc r=>k c v ?_ r) (fun c r=>by rw[ax (nown c b r)];exact r) fun c xs r=>by rw[ax (ntup c xs r)];exact r
   rcases hc with rfl|hc
   ·exact hbe
   ·rintro rfl
    rcases he with z|z
    ·exact nown c b hc z
    ·rw[hc]at z;cases z;exact hb rfl
end
structure Un(fs ex:List Addr)(H H':Hp)(h h':Heap):Prop where
 keep:∀ b o,h.get? b=some o→H b=none→b ∉ fs→b ∉ ex→h'.get? b=some o
 slot:∀ b o,h.get? b=some o→H b=none→b∈fs→b ∉ ex→∃ sl,h'.get? b=some { o with slots:=sl }
 free:∀ b o,h.get? b=some o→H b=none→b ∉ ex→H' b=none
 there:∀ b o,h.get? b=some o→b ∉ ex→∃ o',h'.get? b=some o'
 Jt:∀ b xs,H b=some (.tup xs)→H' b=some (.tup xs)
 Ii:∀ b o u,H b=some (.frz o u)→H' b=some (.frz o u)
 Jr:∀ b ps,H b=some (.OB ps)→∃ more,H' b=some (.OB (ps++more))
section
variable{fs fs' ex ex':List Addr}{H H1 H2:Hp}{h h1 h2 h':Heap}{a x e:Addr}{o:HO}
theorem Un.any(u:Un fs ex H H1 h h1){b:Addr}{ob:Obj}(q:h.get? b=some ob)(n:H b=none)(hx:b ∉ ex):∃ sl,h1.get? b=some { ob with slots:=sl }:=by
 by_cases hb:b∈fs
 ·exact u.slot b ob q n hb hx
 ·exact⟨ob.slots,u.keep b ob q n hb hx⟩
theorem Un.kept(k:∀ b u,h.get? b=some u→h'.get? b=some u):Un fs ex H H h h':=
 ⟨fun b ob q _ _ _=>k b ob q,fun b ob q _ _ _=>⟨ob.slots,k b ob q⟩,fun _ _ _ n _=>n,fun b ob q _=>⟨ob,k b ob q⟩,fun _ _ q=>q,fun _ _ _ q=>q,fun _ ps q=>⟨#[],by rw[q];simp⟩⟩
theorem Un.refl:Un fs ex H H h h:=Un.kept fun _ _ q=>q
theorem Un.laid(k:∀ b u,h.get? b=some u→h'.get? b=some u)(hp:h.objs.size≤a)(hn:H a=none):Un fs ex H (upd H a o) h h' where
 keep:=fun b u q _ _ _=>k b u q
 slot:=fun b u q _ _ _=>⟨u.slots,k b u q⟩
 free:=fun b u q n _=>by rw[ax (Nat.ne_of_lt (Nat.lt_of_lt_of_le (Heap.lt_size q) hp))];exact n
 there:=fun b u q _=>⟨u,k b u q⟩
 Jt:=fun b xs q=>by rw[ax (aQ q hn)];exact q
 Ii:=fun b u xs q=>by rw[ax (aQ q hn)];exact q
 Jr:=fun b ps q=>⟨#[],by rw[ax (aQ q hn),q];simp⟩
theorem Un.write(mu:RR (H x))(he:e=x∨H e=some (.own x))(k:∀ b u,b≠e→h.get? b=some u→h'.get? b=some u)(heo:∃ u,h'.get? e=some u):Un fs ex H (upd H x o) h h':=by
 have hx:∀ b,H b=none→b≠x:=fun b n z=>by subst z;rw[n]at mu;exact mu
 have hb:∀ b,H b=none→b≠e:=fun b n z=>by
  subst z;rcases he with r|r
  ·exact hx b n r
  ·rw[n]at r;cases r
 have hm:∀ b u,H b=some u→¬RR (some u)→b≠x:=fun b u q nm z=>by subst z;rw[q]at mu;exact nm mu
 refine⟨fun b u q n _ _=>k b u (hb b n) q,fun b u q n _ _=>⟨u.slots,k b u (hb b n) q⟩,fun b u q n _=>by rw[ax (hx b n)];exact n,fun b u q _=>?_,
  fun b xs q=>by rw[ax (hm b _ q fun z=>z)];exact q,fun b u xs q=>by rw[ax (hm b _ q fun z=>z)];exact q,fun b ps q=>⟨#[],by rw[ax (hm b _ q fun z=>z),q];simp⟩⟩
 by_cases hbe:b=e
 ·subst hbe;exact heo
 ·exact⟨u,k b u hbe q⟩
end
noncomputable def RQ(h:Heap)(H:Hp):List Addr:=(List.range h.objs.size).filter fun a=>(H a).isSome
noncomputable def GL(h:Heap)(H:Hp):Heap:=PySem.W.hideAll h (RQ h H)
theorem Mi(h:Heap)(H:Hp):(GL h H).objs.size=h.objs.size:=PySem.W.hideAll_size _ _
theorem NP{h:Heap}{H:Hp}{b:Addr}{o:Obj}(e:h.get? b=some o)(n:H b=none):(GL h H).get? b=some o:=
 PySem.W.hideAll_get _ e fun hm=>by
  have q:(H b).isSome=true:=(List.mem_filter.mp hm).2;rw[n]at q;simp at q
theorem OS{h:Heap}{H:Hp}{b:Addr}{o:Obj}(e:(GL h H).get? b=some o):h.get? b=some o∧H b=none:=by
 have e':h.get? b=some o:=PySem.W.of_hideAll (RQ h H) e;refine⟨e',?_⟩
 cases q:H b with
 |none=>rfl
 |some x=>
  have hm:b∈RQ h H:=List.mem_filter.mpr ⟨List.mem_range.mpr (Heap.lt_size e'),by simp[q]⟩;have z:(GL h H).get? b=none:=PySem.W.hideAll_none (RQ h H) hm;rw[z]at e;cases e
end L2
namespace L2
open PySem PySem.Spec PyProof.Rows
structure Mod(K:PySem.W.Frag)(mg:Str→Option Value)(base:Heap):Prop where
 QQ:K.In base
 glob:base.Ns mainGlobals mg
 blt:∃ mb,base.Ns builtinsNs mb∧∀ x:Str,x≠"__name__"→mb x=bootBuiltins x
 nolimit:base.NoLimit
structure Cx where
 prog:Program
 w:World
 K:PySem.W.Frag
 mg:Str→Option Value
 base:Heap
 A:Around
 N:List Str
 s₀:Shared
 H₀:Hp
 env:Env
 outer:List Env
 stack:List Env
 ex:List Addr
 fn:Str→Bool
 calm:Bool
 pn:List (Addr×Obj)
 xe:Value→Shared→Prop
noncomputable def M7(l:List Env):List Addr:=l.filterMap (·.frame)
noncomputable abbrev Cx.fs(X:Cx):List Addr:=M7 X.outer
def QU(sc:Scope)(x:Str):Prop:=sc.names.lookup x=some .local∨sc.names.lookup x=some .cell∨sc.names.lookup x=some .free
def Loc(sc:Scope)(x:Str):Prop:=sc.names.lookup x=some .local∨sc.names.lookup x=some .cell
def Look(env:Env)(h:Heap)(m:Str→Option Value)(x:Str)(u:Value):Prop:=
 (env.kindOf x=some .local∧m x=some u)∨((env.kindOf x=some .cell∨env.kindOf x=some .free)∧∃ c,env.cells.lookup x=some c∧h.IsCell c (some u))
structure Cx.Ok(X:Cx):Prop where
 mod:Mod X.K X.mg X.base
 kind:X.env.scope.kind=.function
 glob:X.env.globals=mainGlobals
 blt:X.env.builtins=builtinsNs
 above:X.s₀.heap.objs.size≤X.env.locals
 inj:∀ x y c,X.env.cells.lookup x=some c→X.env.cells.lookup y=some c→x=y
 has:∀ x,(X.env.kindOf x=some .cell∨X.env.kindOf x=some .free)→∃ c,X.env.cells.lookup x=some c
 RB:∀ x c,X.fn x=true→X.env.cells.lookup x=some c→X.s₀.heap.objs.size≤c
 hd:X.calm=true→X.A.handled=none
 frames:X.A.frames=some X.stack
 PV:X.stack=X.outer∨(X.stack=X.env::X.outer∧X.env.frame=some X.env.locals)
 RP:∀ b∈X.ex,b≠X.env.locals∧∀ x c,X.env.cells.lookup x=some c→c≠b
 bs:∀ b o,X.base.get? b=some o→X.s₀.heap.get? b=some o∧X.H₀ b=none
 Oz:X.base.objs.size≤X.s₀.heap.objs.size
 NA:∀ b o,X.base.get? b=some o→b ∉ X.ex
 NW:∀ b∈X.ex,b ∉ X.fs
 De:X.s₀.heap.FunFrames X.base X.outer
 Qw:∀ b∈X.fs,X.H₀ b=none
structure Inv(X:Cx)(pins:List (Addr×Obj))(σ:List (Option V))(H:Hp)(s:Shared):Prop where
 ok:X.Ok
 os:s.os=X.s₀.os
 bare:AllBare s.gens
 base:Un X.fs X.ex X.H₀ H X.s₀.heap s.heap
 loc:∃ m,s.heap.Ns X.env.locals m∧∀(i:Nat)(x:Str)(v:V),X.N[i]?=some x→σ[i]?=some (some v)→QU X.env.scope x→∃ u,RelV v u∧Look X.env s.heap m x u
 cell:∀ x c,X.env.cells.lookup x=some c→∃ v,s.heap.IsCell c v
 free:H X.env.locals=none
 xh:∀ x c,X.env.cells.lookup x=some c→H c=none
 pin:∀ p∈X.pn++pins,s.heap.get? p.1=some p.2∧H p.1=none∧p.1≠X.env.locals∧p.1 ∉ X.fs∧∀ v,p.2.data≠.cell v
 fD:Cc X.prog X.w H s.heap
 len:σ.length=X.N.length
section
variable{X:Cx}{pins:List (Addr×Obj)}{σ:List (Option V)}{H H':Hp}{s:Shared}{h':Heap}
theorem Cx.Ok.R3(ok:X.Ok){b:Addr}{o:Obj}(e:X.base.get? b=some o):b ∉ X.fs:=fun hb=>by
 have:=(ok.De.mem hb).1;rw[e]at this;cases this
theorem Inv.bs(I:Inv X pins σ H s):∀ b o,X.base.get? b=some o→s.heap.get? b=some o∧H b=none:=fun b o e=>
 ⟨I.base.keep b o (I.ok.bs b o e).1 (I.ok.bs b o e).2 (I.ok.R3 e) (I.ok.NA b o e),I.base.free b o (I.ok.bs b o e).1 (I.ok.bs b o e).2 (I.ok.NA b o e)⟩
theorem Inv.bk(I:Inv X pins σ H s):∀ b o,X.base.get? b=some o→s.heap.get? b=some o:=fun b o e=>(I.bs b o e).1
theorem Inv.mod(I:Inv X pins σ H s):Mod X.K X.mg X.base:=I.ok.mod
theorem Inv.IH(I:Inv X pins σ H s):X.K.In s.heap:=I.ok.mod.QQ.keeps I.bk
theorem Inv.fr(I:Inv X pins σ H s):∃ m,Fr X.base X.env.locals s.heap m:=
 let⟨m,hn,_⟩:=I.loc
 ⟨m,hn,I.bk,Nat.le_trans I.ok.Oz I.ok.above⟩
theorem Inv.lt(I:Inv X pins σ H s):X.env.locals<s.heap.objs.size:=let⟨_,hn,_⟩:=I.loc;hn.lt
theorem Inv.sz(I:Inv X pins σ H s):X.s₀.heap.objs.size≤s.heap.objs.size:=Nat.le_trans I.ok.above (Nat.le_of_lt I.lt)
theorem Inv.RY(I:Inv X pins σ H s){a:Addr}(h:s.heap.objs.size≤a):a ∉ X.fs:=fun hb=>by
 obtain⟨_,o,ho,_⟩:=I.ok.De.mem hb;exact absurd (Nat.lt_of_lt_of_le (Heap.lt_size ho) (Nat.le_trans I.sz h)) (Nat.lt_irrefl _)
theorem Inv.Qo(I:Inv X pins σ H s):∀ x c,X.env.cells.lookup x=some c→c≠X.env.locals:=fun x c e z=>by
 obtain⟨v,o,ho,hd⟩:=I.cell x c e;obtain⟨m,⟨o',es,ep,ho',hd',_⟩,_⟩:=I.loc;rw[z,ho']at ho;cases ho;rw[hd']at hd;cases hd
theorem Inv.De(I:Inv X pins σ H s):s.heap.FunFrames X.base X.outer:=by
 have all:∀(l:List Env),(∀ b∈M7 l,b∈X.fs)→X.s₀.heap.FunFrames X.base l→s.heap.FunFrames X.base l:=by
  intro l
  induction l with
  |nil=>intro _ _;trivial
  |cons env r ih=>
   intro hs hl;obtain⟨hk,⟨L,o,hf,hn,ho,hd⟩,hr⟩:=hl;have hL:L∈X.fs:=hs L (by unfold M7;rw[List.filterMap_cons,hf];exact List.mem_cons_self);obtain⟨sl,e⟩:=I.base.slot L o ho (I.ok.Qw L hL) hL fun z=>I.ok.NW L z hL
   exact⟨hk,⟨L,_,hf,hn,e,hd⟩,ih (fun b hb=>hs b (by unfold M7;rw[List.filterMap_cons,hf];exact List.mem_cons_of_mem _ hb)) hr⟩
 exact all X.outer (fun _ hb=>hb) I.ok.De
theorem Inv.stack(I:Inv X pins σ H s):s.heap.FunFrames X.base X.stack:=by
 rcases I.ok.PV with e|⟨e,hf⟩
 ·rw[e];exact I.De
 ·rw[e];obtain⟨m,hn,_⟩:=I.loc;refine .cons (by rw[I.ok.kind];decide) hf hn ?_ I.De;exact Heap.get?_none_of_le (Nat.le_trans I.ok.Oz I.ok.above)
theorem Inv.Lr(I:Inv X pins σ H s):∀ b∈M7 X.stack,b∈X.env.locals::X.fs:=fun b hb=>by
 rcases I.ok.PV with e|⟨e,hf⟩
 ·rw[e]at hb;exact List.mem_cons_of_mem _ hb
 ·rw[e]at hb;unfold M7 at hb;rw[List.filterMap_cons,hf]at hb;exact hb
theorem Inv.LR(I:Inv X pins σ H s):∀ b∈M7 X.stack,H b=none:=fun b hb=>by
 rcases List.mem_cons.mp (I.Lr b hb)with e|hb
 ·rw[e];exact I.free
 ·obtain⟨_,o,ho,_⟩:=I.ok.De.mem hb;exact I.base.free b o ho (I.ok.Qw b hb) fun z=>I.ok.NW b z hb
theorem Inv.step{g':Array GenState}{t':Nat}{d':Drawn}{ch:List Addr}(I:Inv X pins σ H s)
  (hch:∀ b∈ch,(b∈X.ex∨X.s₀.heap.objs.size≤b)∧b≠X.env.locals∧(∀ x c,X.env.cells.lookup x=some c→c≠b)∧∀ p∈X.pn++pins,p.1≠b)
  (keep:∀ b o,b≠X.env.locals→b ∉ X.fs→b ∉ ch→s.heap.get? b=some o→H b=none→h'.get? b=some o)
  (slot:∀ b o,b≠X.env.locals→b∈X.fs→b ∉ ch→s.heap.get? b=some o→H b=none→∃ sl,h'.get? b=some { o with slots:=sl }) (free:∀ b o,b ∉ ch→s.heap.get? b=some o→H b=none→H' b=none)
  (there:∀ b o,b ∉ ch→s.heap.get? b=some o→∃ o',h'.get? b=some o')
  (Jt:∀ b xs,H b=some (.tup xs)→H' b=some (.tup xs)) (Ii:∀ b o u,H b=some (.frz o u)→H' b=some (.frz o u)) (Jr:∀ b ps,H b=some (.OB ps)→∃ more,H' b=some (.OB (ps++more)))
  (ns:∀ m,s.heap.Ns X.env.locals m→h'.Ns X.env.locals m) (fD:Cc X.prog X.w H' h') (hg:AllBare g') :
  Inv X pins σ H' { s with heap:=h',gens:=g',drawn:=d',toks:=t' }:=by
 have neL:∀ b o,X.s₀.heap.get? b=some o→b≠X.env.locals:=fun b o e=>Nat.ne_of_lt (Nat.lt_of_lt_of_le (Heap.lt_size e) I.ok.above)
 have neC:∀ b o,X.s₀.heap.get? b=some o→b ∉ X.ex→b ∉ ch:=fun b o e hx hb=>by
  rcases(hch b hb).1 with z|z
  ·exact hx z
  ·exact absurd (Nat.lt_of_lt_of_le (Heap.lt_size e) z) (Nat.lt_irrefl _)
 have cellK:∀ x c,X.env.cells.lookup x=some c→∀ v,s.heap.IsCell c v→h'.IsCell c v:=fun x c e v ⟨o,ho,hd⟩=>by
  have nch:c ∉ ch:=fun z=>(hch c z).2.2.1 x c e rfl
  by_cases hc:c∈X.fs
  ·obtain⟨sl,q⟩:=slot c o (I.Qo x c e) hc nch ho (I.xh x c e);exact⟨_,q,hd⟩
  ·exact⟨o,keep c o (I.Qo x c e) hc nch ho (I.xh x c e),hd⟩
 refine⟨I.ok,I.os,hg,⟨fun b o e n hb hx=>?_,fun b o e n hb hx=>?_,fun b o e n hx=>?_,fun b o e hx=>?_,fun b xs e=>Jt b xs (I.base.Jt b xs e),fun b o xs e=>Ii b o xs (I.base.Ii b o xs e),fun b ps e=>?_⟩,?_,fun x c e=>?_,?_,fun x c e=>?_,fun p hp=>?_,fD,I.len⟩
 ·exact keep b o (neL b o e) hb (neC b o e hx) (I.base.keep b o e n hb hx) (I.base.free b o e n hx)
 ·obtain⟨sl,e1⟩:=I.base.slot b o e n hb hx;obtain⟨sl',e2⟩:=slot b _ (neL b o e) hb (neC b o e hx) e1 (I.base.free b o e n hx);exact⟨sl',e2⟩
 ·obtain⟨o',e1⟩:=I.base.there b o e hx;exact free b o' (neC b o e hx) e1 (I.base.free b o e n hx)
 ·obtain⟨o',e1⟩:=I.base.there b o e hx;exact there b o' (neC b o e hx) e1
 ·obtain⟨m1,e1⟩:=I.base.Jr b ps e;obtain⟨m2,e2⟩:=Jr b _ e1;exact⟨m1++m2,by rw[e2,Array.append_assoc]⟩
 ·obtain⟨m,hn,hl⟩:=I.loc;refine⟨m,ns m hn,fun i x v e1 e2 e3=>?_⟩;obtain⟨u,r,l⟩:=hl i x v e1 e2 e3;refine⟨u,r,?_⟩;rcases l with l|⟨k,c,e,z⟩
  ·exact .inl l
  ·exact .inr ⟨k,c,e,cellK x c e _ z⟩
 ·obtain⟨v,z⟩:=I.cell x c e;exact⟨v,cellK x c e v z⟩
 ·obtain⟨m,⟨o,_,_,ho,_⟩,_⟩:=I.loc;exact free _ o (fun z=>(hch _ z).2.1 rfl) ho I.free
 ·obtain⟨v,o,ho,hd⟩:=I.cell x c e;exact free c o (fun z=>(hch c z).2.2.1 x c e rfl) ho (I.xh x c e)
 ·obtain⟨e,n,ne,nf,d⟩:=I.pin p hp;have nch:p.1 ∉ ch:=fun z=>(hch p.1 z).2.2.2 p hp rfl
  exact⟨keep p.1 p.2 ne nf nch e n,free p.1 p.2 nch e n,ne,nf,d⟩
theorem Inv.un{t':Nat}(I:Inv X pins σ H s)(u:Un X.fs [] H H' s.heap h')(fD:Cc X.prog X.w H' h'):Inv X pins σ H' { s with heap:=h',toks:=t' }:=by
 obtain⟨m,⟨o,es,ep,ho,r⟩,_⟩:=id I.loc;obtain⟨sl,hL⟩:=u.any ho I.free (by simp)
 exact I.step (g':=s.gens) (d':=s.drawn) (ch:=[]) (fun _ z=>nomatch z) (fun b o _ hb _ e n=>u.keep b o e n hb (by simp)) (fun b o _ hb _ e n=>u.slot b o e n hb (by simp)) (fun b o _ e n=>u.free b o e n (by simp)) (fun b o _ e=>u.there b o e (by simp)) u.Jt u.Ii u.Jr (fun m' hm=>by
  obtain⟨o',es',ep',ho',r'⟩:=hm;rw[ho]at ho';cases ho'
  exact⟨_,es',ep',hL,r'⟩) fD I.bare
theorem Inv.call{g':Array GenState}{t':Nat}{d':Drawn}{ch:List Addr}(I:Inv X pins σ H s)(u:Un (M7 X.stack) ch H H' s.heap h')(fD:Cc X.prog X.w H' h')(hg:AllBare g')
  (hch:∀ b∈ch,(b∈X.ex∨X.s₀.heap.objs.size≤b)∧b≠X.env.locals∧(∀ x c,X.env.cells.lookup x=some c→c≠b)∧∀ p∈X.pn++pins,p.1≠b) :
  Inv X pins σ H' { s with heap:=h',gens:=g',drawn:=d',toks:=t' }:=by
 obtain⟨m,⟨o,es,ep,ho,r⟩,_⟩:=id I.loc;obtain⟨sl,hL⟩:=u.any ho I.free fun z=>(hch _ z).2.1 rfl
 exact I.step (ch:=ch) hch (fun b o hL hb hc e n=>u.keep b o e n (fun z=>(List.mem_cons.mp (I.Lr b z)).elim hL hb) hc) (fun b o _ _ hc e n=>u.any e n hc) (fun b o hc e n=>u.free b o e n hc) (fun b o hc e=>u.there b o e hc) u.Jt u.Ii u.Jr (fun m' hm=>by
  obtain⟨o',es',ep',ho',r'⟩:=hm;rw[ho]at ho';cases ho'
  exact⟨_,es',ep',hL,r'⟩) fD hg
theorem Inv.turned{t':Nat}{it:Addr}(I:Inv X pins σ H s)(k:∀ b o,b≠it→s.heap.get? b=some o→h'.get? b=some o)(hn:H it=none)(hL:it≠X.env.locals)
  (h1:it∈X.ex∨X.s₀.heap.objs.size≤it) (h2:∀ x c,X.env.cells.lookup x=some c→c≠it) (h3:∀ p∈X.pn++pins,p.1≠it):Inv X pins σ H { s with heap:=h',toks:=t' }:=by
 have nit:∀ b u,H b=some u→b≠it:=fun b u e z=>by rw[z,hn]at e;cases e
 refine I.step (g':=s.gens) (d':=s.drawn) (ch:=[it]) (fun b hb=>?_) (fun b o _ _ hc e _=>k b o (fun z=>hc (by simp[z])) e) (fun b o _ _ hc e _=>⟨o.slots,k b o (fun z=>hc (by simp[z])) e⟩) (fun _ _ _ _ n=>n)
  (fun b o hc e=>⟨o,k b o (fun z=>hc (by simp[z])) e⟩) (fun _ _ e=>e) (fun _ _ _ e=>e) (fun b ps e=>⟨#[],by rw[e];simp⟩) (fun m hm=>?_) (fun b u e=>?_) I.bare
 ·have e:b=it:=by simpa using hb
  subst e;exact⟨h1,hL,h2,h3⟩
 ·obtain⟨o,es,ep,ho,r⟩:=hm;exact⟨o,es,ep,k _ o (Ne.symm hL) ho,r⟩
 ·refine (I.fD b u e).Nk (fun c v hc q=>k c v ?_ q) (fun _ q=>q) fun _ _ q=>q
  rcases hc with z|z
  ·rw[z];exact nit b u e
  ·exact nit c _ z
theorem Inv.tok(I:Inv X pins σ H s)(t:Nat):Inv X pins σ H { s with toks:=t }:=I.un (h':=s.heap) (t':=t) Un.refl I.fD
theorem Inv.kept{t':Nat}(I:Inv X pins σ H s)(k:∀ b u,s.heap.get? b=some u→h'.get? b=some u):Inv X pins σ H { s with heap:=h',toks:=t' }:=I.un (Un.kept k) (I.fD.kept k)
theorem Inv.laid{a:Addr}{o:HO}{t':Nat}(I:Inv X pins σ H s)(k:∀ b u,s.heap.get? b=some u→h'.get? b=some u)(hp:s.heap.objs.size≤a)(new:qR X.prog X.w (upd H a o) h' a o) :
  Inv X pins σ (upd H a o) { s with heap:=h',toks:=t' }:=I.un (Un.laid k hp (I.fD.fresh hp)) (I.fD.laid k hp new)
theorem Inv.write{x e:Addr}{o:HO}{t':Nat}(I:Inv X pins σ H s)(mu:RR (H x))(he:e=x∨H e=some (.own x))(k:∀ b u,b≠e→s.heap.get? b=some u→h'.get? b=some u)(heo:∃ u,h'.get? e=some u)
  (new:qR X.prog X.w (upd H x o) h' x o):Inv X pins σ (upd H x o) { s with heap:=h',toks:=t' }:=I.un (Un.write mu he k heo) (I.fD.write mu he k heo new)
theorem Inv.weak{σ':List (Option V)}(I:Inv X pins σ H s)(hl:σ'.length=σ.length)(w:∀ (i:Nat) v,σ'[i]?=some (some v)→σ[i]?=some (some v)):Inv X pins σ' H s:=
 ⟨I.ok,I.os,I.bare,I.base,let⟨m,hn,hl'⟩:=I.loc;⟨m,hn,fun i x v e1 e2 e3=>hl' i x v e1 (w i v e2) e3⟩,I.cell,I.free,I.xh,I.pin,I.fD,hl.trans I.len⟩
theorem Inv.Lv{pins':List (Addr×Obj)}(I:Inv X pins σ H s)(h:∀ p∈pins',s.heap.get? p.1=some p.2∧H p.1=none∧p.1≠X.env.locals∧p.1 ∉ X.fs∧∀ v,p.2.data≠.cell v):Inv X pins' σ H s:=
 ⟨I.ok,I.os,I.bare,I.base,I.loc,I.cell,I.free,I.xh,fun p hp=>(List.mem_append.mp hp).elim (fun z=>I.pin p (List.mem_append_left _ z)) (h p),I.fD,I.len⟩
theorem Ea{N:List Str}(hN:N.Nodup){i j:Nat}{x:Str}(a:N[i]?=some x)(b:N[j]?=some x):i=j:=by
 obtain⟨h1,e1⟩:=List.getElem?_eq_some_iff.mp a;obtain⟨h2,e2⟩:=List.getElem?_eq_some_iff.mp b;exact (List.getElem_inj hN).mp (e1.trans e2.symm)
theorem GC{M:Model}{A:Around}{E:Value→Shared→Prop}{i:Nat}{x:Str}{v:V}{u:Value}{Q:Unit→Shared→Prop}(I:Inv X pins σ H s)(hN:X.N.Nodup)(hi:X.N[i]?=some x)(hx:Loc X.env.scope x)(r:RelV v u)
  (h:∀ s',Inv X pins (σ.set i (some v)) H s'→(∃ a,Heap.SameBut a s.heap s'.heap∧(a=X.env.locals∨X.env.cells.lookup x=some a))→Q () s') (hf:X.fn x=true∨X.env.scope.names.lookup x=some .local:=by first|exact .inl rfl|exact .inr rfl|assumption):wpAny M A (storeName X.env x u) Q E s:=by
 obtain⟨m,hn,hl⟩:=id I.loc;have hcls:(X.env.scope.kind == .class||(X.env.scope.kind == .module&&X.env.locals != X.env.globals))=false:=by rw[I.ok.kind];rfl
 have hiσ:i<σ.length:=by rw[I.len];exact (List.getElem?_eq_some_iff.mp hi).1
 have Qo:=I.Qo;have tracked:∀{a:Addr}{h':Heap},(∃ o,s.heap.get? a=some o∧H a=none)→Heap.SameBut a s.heap h'→Cc X.prog X.w H h':=fun{a h'} ha hs b ob e=>by
  obtain⟨_,_,hfree⟩:=ha;refine (I.fD b ob e).Nk (fun c w' hc q=>(hs.2 c ?_).trans q) (fun _ q=>q) fun _ _ q=>q
  rintro rfl
  rcases hc with rfl|hc
  ·rw[hfree]at e;cases e
  ·rw[hfree]at hc;cases hc
 rcases hx with hk|hk
 ·refine wpAny_storeName_local hk hn (fun h' hn' hs=>?_) hcls;obtain⟨oL,_,_,hoL,_⟩:=id hn;refine h _ ⟨I.ok,I.os,I.bare,⟨fun b o e n hb hx=>?_,fun b o e n hb hx=>?_,I.base.free,fun b o e hx=>?_,I.base.Jt,I.base.Ii,I.base.Jr⟩,⟨_,hn',fun j y v' e1 e2 e3=>?_⟩,fun y c e=>?_,I.free,I.xh,fun p hp=>?_,tracked ⟨oL,hoL,I.free⟩ hs,by simpa using I.len⟩ ⟨_,hs,.inl rfl⟩
  ·exact (hs.2 b (Nat.ne_of_lt (Nat.lt_of_lt_of_le (Heap.lt_size e) I.ok.above))).trans (I.base.keep b o e n hb hx)
  ·obtain⟨sl,e1⟩:=I.base.slot b o e n hb hx;exact⟨sl,(hs.2 b (Nat.ne_of_lt (Nat.lt_of_lt_of_le (Heap.lt_size e) I.ok.above))).trans e1⟩
  ·obtain⟨o',e1⟩:=I.base.there b o e hx;exact⟨o',(hs.2 b (Nat.ne_of_lt (Nat.lt_of_lt_of_le (Heap.lt_size e) I.ok.above))).trans e1⟩
  ·by_cases hj:j=i
   ·subst hj;rw[hi]at e1;cases e1;rw[List.getElem?_set_self hiσ]at e2;cases e2;exact⟨u,r,.inl ⟨hk,by simp⟩⟩
   ·rw[List.getElem?_set_ne (Ne.symm hj)]at e2;obtain⟨u',r',q⟩:=hl j y v' e1 e2 e3;refine⟨u',r',?_⟩;rcases q with⟨k,e⟩|⟨k,c,e,z⟩
    ·refine .inl ⟨k,?_⟩;have:y≠x:=fun e=>hj (Ea hN e1 (e ▸ hi))
     simp[this,e]
    ·exact .inr ⟨k,c,e,z.sameBut hs (Qo y c e)⟩
  ·obtain⟨w',z⟩:=I.cell y c e;exact⟨w',z.sameBut hs (Qo y c e)⟩
  ·obtain⟨e,n,ne,nf,d⟩:=I.pin p hp;exact⟨(hs.2 p.1 ne).trans e,n,ne,nf,d⟩
 ·have hfn:X.fn x=true:=by
   rcases hf with z|z
   ·exact z
   ·rw[z]at hk;cases hk
  obtain⟨c,hc⟩:=I.ok.has x (.inl hk);obtain⟨w',z⟩:=I.cell x c hc;refine wpAny_storeName_cell I.ok.kind hk hc z (fun h' hc' hs=>?_);obtain⟨oc,hoc,hocd⟩:=id z;refine h { s with heap:=h' } ⟨I.ok,I.os,I.bare,⟨fun b o e n hb hx=>?_,fun b o e n hb hx=>?_,I.base.free,fun b o e hx=>?_,I.base.Jt,I.base.Ii,I.base.Jr⟩,⟨m,hn.sameBut hs (Ne.symm (Qo x c hc)),fun j y v' e1 e2 e3=>?_⟩,fun y c' e=>?_,I.free,I.xh,fun p hp=>?_,tracked ⟨oc,hoc,I.xh x c hc⟩ hs,by simpa using I.len⟩ ⟨c,hs,.inr hc⟩
  ·exact (hs.2 b (Nat.ne_of_lt (Nat.lt_of_lt_of_le (Heap.lt_size e) (I.ok.RB x c hfn hc)))).trans (I.base.keep b o e n hb hx)
  ·obtain⟨sl,e1⟩:=I.base.slot b o e n hb hx;exact⟨sl,(hs.2 b (Nat.ne_of_lt (Nat.lt_of_lt_of_le (Heap.lt_size e) (I.ok.RB x c hfn hc)))).trans e1⟩
  ·obtain⟨o',e1⟩:=I.base.there b o e hx;exact⟨o',(hs.2 b (Nat.ne_of_lt (Nat.lt_of_lt_of_le (Heap.lt_size e) (I.ok.RB x c hfn hc)))).trans e1⟩
  ·by_cases hj:j=i
   ·subst hj;rw[hi]at e1;cases e1;rw[List.getElem?_set_self hiσ]at e2;cases e2;exact⟨u,r,.inr ⟨.inl hk,c,hc,hc'⟩⟩
   ·rw[List.getElem?_set_ne (Ne.symm hj)]at e2;obtain⟨u',r',q⟩:=hl j y v' e1 e2 e3;refine⟨u',r',?_⟩;rcases q with q|⟨k,c',e,z'⟩
    ·exact .inl q
    ·refine .inr ⟨k,c',e,z'.sameBut hs ?_⟩
     rintro rfl
     exact hj (Ea hN e1 (I.ok.inj _ _ _ e hc ▸ hi))
  ·by_cases hcc:c'=c
   ·subst hcc;exact⟨_,hc'⟩
   ·obtain⟨w2,z2⟩:=I.cell y c' e;exact⟨w2,z2.sameBut hs hcc⟩
  ·obtain⟨e,n,ne,nf,d⟩:=I.pin p hp;refine⟨(hs.2 p.1 ?_).trans e,n,ne,nf,d⟩;intro q;rw[q,hoc]at e;have q':oc=p.2:=Option.some.inj e;exact d w' (by rw[←q'];exact hocd)
theorem JI{M:Model}{A:Around}{E:Value→Shared→Prop}{i:Nat}{x:Str}{v:V}{u:Value}{Q:Unit→Shared→Prop}(I:Inv X pins σ H s)(hN:X.N.Nodup)(hi:X.N[i]?=some x)(hx:Loc X.env.scope x)(r:RelV v u)
  (h:∀ s',Inv X pins (σ.set i (some v)) H s'→Q () s') (hf:X.fn x=true∨X.env.scope.names.lookup x=some .local:=by first|exact .inl rfl|exact .inr rfl|assumption):wpAny M A (storeName X.env x u) Q E s:=
 GC I hN hi hx r (fun s' I' _=>h s' I') hf
theorem Inv.Q9{s':Shared}{ch:List Addr}(I:Inv X pins σ H s)(ho:s'.os=s.os)(u:Un (M7 X.stack) ch H H' s.heap s'.heap)(fD:Cc X.prog X.w H' s'.heap)(hg:AllBare s'.gens)
  (hch:∀ b∈ch,(b∈X.ex∨X.s₀.heap.objs.size≤b)∧b≠X.env.locals∧(∀ x c,X.env.cells.lookup x=some c→c≠b)∧∀ p∈X.pn++pins,p.1≠b):Inv X pins σ H' s':=by
 obtain⟨h',g',d',t',o'⟩:=s';have e:o'=s.os:=ho;subst e;exact I.call (g':=g') (t':=t') (d':=d') u fD hg hch
end
noncomputable abbrev XK:=Value→Option Addr→Hp→Prop
noncomputable abbrev St:=List (Option V)
noncomputable abbrev VK:=V→Hp→Prop
noncomputable abbrev TE:=St→Hp→VK→Prop
noncomputable abbrev TT:=St→Hp→(Bool→Hp→Prop)→Prop
noncomputable abbrev TA:=St→Hp→(List V→Hp→Prop)→Prop
structure Ends where
 nx:St→Hp→Prop
 rt:VK
 bk:St→Hp→Prop:=fun _ _=>False
 ct:St→Hp→Prop:=fun _ _=>False
noncomputable abbrev TS:=Ends→St→Hp→Prop
def EP(X:Cx)(pins:List (Addr×Obj))(σ:St)(Q:VK)(u:Value)(s':Shared):Prop:=∃ v H',Inv X pins σ H' s'∧RelV v u∧Q v H'
def TP(X:Cx)(pins:List (Addr×Obj))(σ:St)(Q:Bool→Hp→Prop)(b:Bool)(s':Shared):Prop:=∃ H',Inv X pins σ H' s'∧Q b H'
def AP(X:Cx)(pins:List (Addr×Obj))(σ:St)(Q:List V→Hp→Prop)(us:List Value)(s':Shared):Prop:=∃ vs H',Inv X pins σ H' s'∧Vals vs us∧Q vs H'
def SP(X:Cx)(pins:List (Addr×Obj))(D:Ends)(f:Flow)(s':Shared):Prop:=
 match f with
 |.next=>∃ σ' H',Inv X pins σ' H' s'∧D.nx σ' H'
 |.brk=>∃ σ' H',Inv X pins σ' H' s'∧D.bk σ' H'
 |.cont=>∃ σ' H',Inv X pins σ' H' s'∧D.ct σ' H'
 |.ret u=>∃ v σ' H',Inv X pins σ' H' s'∧RelV v u∧D.rt v H'
def PE(X:Cx)(e:Expr)(t:TE):Prop:=
 ∀(pins:List (Addr×Obj))(s:Shared)(σ:St)(H:Hp)(Q:VK),Inv X pins σ H s→t σ H Q→wpAny (model X.prog X.w) X.A (eval e X.env) (EP X pins σ Q) X.xe s
def PT(X:Cx)(e:Expr)(t:TT):Prop:=
 ∀(pins:List (Addr×Obj))(s:Shared)(σ:St)(H:Hp)(Q:Bool→Hp→Prop),Inv X pins σ H s→t σ H Q→wpAny (model X.prog X.w) X.A (isTrue e X.env (eval e X.env)) (TP X pins σ Q) X.xe s
def PW(X:Cx)(e:Expr)(t:TT):Prop:=
 ∀(whole:Sem Value)(pins:List (Addr×Obj))(s:Shared)(σ:St)(H:Hp)(Q:Bool→Hp→Prop),Inv X pins σ H s→t σ H Q→wpAny (model X.prog X.w) X.A (isTrue e X.env whole) (TP X pins σ Q) X.xe s
theorem PW.pt{X:Cx}{e:Expr}{t:TT}(h:PW X e t):PT X e t:=h _
def PA(X:Cx)(es:List Expr)(t:TA):Prop:=
 ∀(pos:Pos)(pins:List (Addr×Obj))(s:Shared)(σ:St)(H:Hp)(Q:List V→Hp→Prop),Inv X pins σ H s→t σ H Q→wpAny (model X.prog X.w) X.A (spliced (backTo pos (starEach es X.env))) (AP X pins σ Q) X.xe s
def PS(X:Cx)(st:Stmt)(t:TS):Prop:=
 ∀(pins:List (Addr×Obj))(s:Shared)(σ:St)(H:Hp)(D:Ends),Inv X pins σ H s→t D σ H→wpAny (model X.prog X.w) X.A (exec st X.env) (SP X pins D) X.xe s
def Ms(X:Cx)(st:List Stmt)(t:TS):Prop:=
 ∀(pins:List (Addr×Obj))(s:Shared)(σ:St)(H:Hp)(D:Ends),Inv X pins σ H s→t D σ H→wpAny (model X.prog X.w) X.A (execs st X.env) (SP X pins D) X.xe s
theorem gM{α:Type}{t:Sem α}{Q Q':α→Shared→Prop}{M:Model}{A:Around}{E:Value→Shared→Prop}{s:Shared}(h:wpAny M A t Q E s)(hQ:∀ a s,Q a s→Q' a s):wpAny M A t Q' E s:=wpAny_mono h hQ fun _ _ x=>x
end L2
namespace L2
open PySem PySem.Spec PyProof.Rows
section
variable{X:Cx}
theorem bin{a b:Expr}{ta tb:TE}(ha:PE X a ta)(hb:PE X b tb){pins:List (Addr×Obj)}{s:Shared}{σ:St}{H:Hp}{R:V→V→Hp→Prop}(I:Inv X pins σ H s)(h:ta σ H fun x H1=>tb σ H1 fun y H2=>R x y H2)
  {α:Type} {Q:α→Shared→Prop} {f:Value→Value→Sem α}
  (hf:∀ v u s2 x y H2,Inv X pins σ H2 s2→RelV x v→RelV y u→R x y H2→wpAny (model X.prog X.w) X.A (f v u) Q X.xe s2) :
  wpAny (model X.prog X.w) X.A (eval a X.env) (fun v s₁=>wpAny (model X.prog X.w) X.A (eval b X.env) (fun u s₂=>wpAny (model X.prog X.w) X.A (f v u) Q X.xe s₂) X.xe s₁) X.xe s:=by
 refine gM (ha pins s σ H _ I h) fun v s1 ⟨x,H1,I1,r1,q1⟩=>?_
 refine gM (hb pins s1 σ H1 _ I1 q1) fun u s2 ⟨y,H2,I2,r2,q2⟩=>?_
 exact hf v u s2 x y H2 I2 r1 r2 q2
inductive Sj(σ:St)(i:Nat)(H:Hp)(Q:VK):Prop
 |mk(v:V)(_:σ[i]?=some (some v))(_:Q v H)
def Fq(i:Nat):TE:=fun σ H Q=>Sj σ i H Q
def tC(v:V):TE:=fun _ H Q=>Q v H
theorem Nb{i:Nat}{x:Str}{pos:Pos}(hN:X.N[i]?=some x)(hv:QU X.env.scope x)(hd:(x==("__debug__":Str))=false:=by decide)(hcd:(x==("__classdict__":Str))=false:=by decide):PE X (.Name x pos) (Fq i):=by
 intro pins s σ H Q I h;obtain⟨v,e,h⟩:=h;obtain⟨m,hn,hl⟩:=I.loc;obtain⟨u,r,l⟩:=hl i x v hN e hv;have fin:EP X pins σ Q u s:=⟨v,H,I,r,h⟩
 rcases l with⟨hk,hm⟩|⟨hk,c,hc,hcell⟩
 ·exact wpAny_Name (wpAny_loadName_local I.ok.kind hk hn hm fin) hd
 ·rcases hk with hk|hk
  ·exact wpAny_Name (wpAny_loadName_cell I.ok.kind hk hc hcell fin) hd
  ·exact wpAny_Name (wpAny_loadName_free I.ok.kind hk hc hcell fin hcd) hd
theorem aj{i j pos}:PE X (.Constant (.int i) j pos) (tC (.int i)):=fun _ _ _ H _ I h=>wpAny_Constant_int ⟨.int i,H,I.tok _,⟨_,rfl⟩,h⟩
theorem pI{b j pos}:PE X (.Constant (.bool b) j pos) (tC (.bl b)):=fun _ _ _ H _ I h=>Constant_bool ⟨.bl b,H,I,rfl,h⟩
theorem Kb{j pos}:PE X (.Constant .none j pos) (tC .non):=fun _ _ _ H _ I h=>Constant_none ⟨.non,H,I,rfl,h⟩
theorem vX{x j pos}:PE X (.Constant (.str x) j pos) (tC (.str x)):=fun _ _ _ H _ I h=>Calls.Constant_str ⟨.str x,H,I.tok _,⟨_,rfl⟩,h⟩
def Gl(X:Cx)(x:Str):Prop:=X.env.kindOf x=some .globalImplicit
theorem Aa{E:Value→Shared→Prop}{pins:List (Addr×Obj)}{s:Shared}{σ:St}{H:Hp}{x:Str}{u:Value}{pos:Pos}{Q:Value→Shared→Prop}(I:Inv X pins σ H s)(hg:Gl X x)(hm:X.mg x=some u)(h:Q u s)
  (hd:(x==("__debug__":Str))=false:=by decide):wpAny (model X.prog X.w) X.A (eval (.Name x pos) X.env) Q E s:=
 Calls.Name_function_global I.ok.kind hg (Calls.loadGlobal_global (by rw[I.ok.glob];exact I.mod.glob.keeps I.bk) hm h) hd
theorem Kq{E:Value→Shared→Prop}{pins:List (Addr×Obj)}{s:Shared}{σ:St}{H:Hp}{x:Str}{u:Value}{pos:Pos}{Q:Value→Shared→Prop}(I:Inv X pins σ H s)(hg:Gl X x)(hm:X.mg x=none)(hv:bootBuiltins x=some u)(h:Q u s)
  (hn:x≠"__name__":=by decide) (hd:(x==("__debug__":Str))=false:=by decide):wpAny (model X.prog X.w) X.A (eval (.Name x pos) X.env) Q E s:=by
 obtain⟨mb,h1,h2⟩:=I.mod.blt;exact Calls.Name_function_global I.ok.kind hg (Calls.loadGlobal_builtin (by rw[I.ok.glob];exact I.mod.glob.keeps I.bk) hm (by rw[I.ok.blt];exact h1.keeps I.bk) ((h2 x hn).trans hv) h) hd
theorem LC{x:Str}{v:V}{u:Value}{pos:Pos}(hg:Gl X x)(hm:X.mg x=some u)(r:RelV v u)(hd:(x==("__debug__":Str))=false:=by decide):PE X (.Name x pos) (tC v):=
 fun _ _ _ H _ I h=>Aa I hg hm ⟨v,H,I,r,h⟩ hd
inductive Tr(x y:V)(k:Int→Int→Hp→Prop)(H:Hp):Prop
 |mk(i j:Int)(_:x=.int i)(_:y=.int j)(_:k i j H)
noncomputable def To(ta tb:TE)(k:Int→Int→Hp→Prop):St→Hp→Prop:=fun σ H=>ta σ H fun x H1=>tb σ H1 fun y H2=>Tr x y k H2
variable{a b:Expr}{ta tb:TE}{pos:Pos}
def PC(X:Cx)(op:CmpOp)(a b:Expr)(t:TE):Prop:=
 ∀(pins:List (Addr×Obj))(s:Shared)(σ:St)(H:Hp)(Q:VK),Inv X pins σ H s→t σ H Q→
  wpAny (model X.prog X.w) X.A (eval a X.env) (fun v s₁=>wpAny (model X.prog X.w) X.A (eval b X.env) (fun u s₂=>wpAny (model X.prog X.w) X.A (compareOp op v u) (EP X pins σ Q) X.xe s₂) X.xe s₁) X.xe s
theorem Je(b:Expr){op:CmpOp}(h:op≠.In)(h2:op≠.NotIn):behindInMarks op b=false:=by
 have e1:(op==CmpOp.In)=false:=by cases op<;>first|rfl|exact absurd rfl h
 have e2:(op==CmpOp.NotIn)=false:=by cases op<;>first|rfl|exact absurd rfl h2
 cases b<;>simp[behindInMarks,e1,e2]
def Bm(p:Int→Int→Bool)(ta tb:TE):TE:=fun σ H Q=>To ta tb (fun i j H2=>Q (.bl (p i j)) H2) σ H
noncomputable abbrev Tq:TE→TE→TE:=Bm fun i j=>decide (i<j)
noncomputable abbrev TF:TE→TE→TE:=Bm fun i j=>decide (i≤j)
noncomputable abbrev Tz:TE→TE→TE:=Bm fun i j=>decide (j<i)
noncomputable abbrev Ts:TE→TE→TE:=Bm fun i j=>decide (j≤i)
noncomputable abbrev SF:TE→TE→TE:=Bm fun i j=>decide (i=j)
noncomputable abbrev SE:TE→TE→TE:=Bm fun i j=>!decide (i=j)
theorem AR{op:CmpOp}{p:Int→Int→Bool}(ha:PE X a ta)(hb:PE X b tb)
  (rule:∀(i j:Int)(t u:Tok)(Q:Value→Shared→Prop)(s:Shared),Q (.bool (p i j)) s→wpAny (model X.prog X.w) X.A (compareOp op (.int i t) (.int j u)) Q X.xe s):PC X op a b (Bm p ta tb):=by
 intro pins s σ H Q I h;refine bin ha hb I h fun v u s2 x y H2 I2 rx ry q=>?_
 obtain⟨i,j,rfl,rfl,q⟩:=q;obtain⟨t,rfl⟩:=rx;obtain⟨t',rfl⟩:=ry;exact rule i j t t' _ s2 ⟨.bl _,H2,I2,rfl,q⟩
theorem yo(ha:PE X a ta)(hb:PE X b tb):PC X .Lt a b (Tq ta tb):=AR ha hb fun _ _ _ _ _ _ h=>lt_int h
theorem Cg(ha:PE X a ta)(hb:PE X b tb):PC X .LtE a b (TF ta tb):=AR ha hb fun _ _ _ _ _ _ h=>le_int h
theorem kT(ha:PE X a ta)(hb:PE X b tb):PC X .Gt a b (Tz ta tb):=AR ha hb fun _ _ _ _ _ _ h=>gt_int h
theorem m9(ha:PE X a ta)(hb:PE X b tb):PC X .GtE a b (Ts ta tb):=AR ha hb fun _ _ _ _ _ _ h=>ge_int h
theorem bx(ha:PE X a ta)(hb:PE X b tb):PC X .Eq a b (SF ta tb):=AR ha hb fun _ _ _ _ _ _ h=>eq_int (by rw[Bool.beq_eq_decide_eq];exact h)
theorem nK(ha:PE X a ta)(hb:PE X b tb):PC X .NotEq a b (SE ta tb):=AR ha hb fun _ _ _ _ _ _ h=>ne_int (by rw[bne,Bool.beq_eq_decide_eq];exact h)
def R6(ta:TE):TE:=fun σ H Q=>ta σ H fun x H1=>Q (.bl (decide (x=.non))) H1
def RC(ta:TE):TE:=fun σ H Q=>ta σ H fun x H1=>Q (.bl (!decide (x=.non))) H1
theorem RelV.JE{x:V}{v:Value}(r:RelV x v):(v==Value.none)=decide (x=.non):=by
 cases x with
 |non=>cases r;rfl
 |bl _=>cases r;rfl
 |int _=>obtain⟨t,rfl⟩:=r;rfl
 |str _=>obtain⟨t,rfl⟩:=r;rfl
 |byt _=>obtain⟨t,rfl⟩:=r;rfl
 |flt _=>obtain⟨t,rfl⟩:=r;rfl
 |ref _=>cases r;rfl
 |ty _=>cases r;rfl
theorem NR{j pos'}(ha:PE X a ta):PC X .Is a (.Constant .none j pos') (R6 ta):=by
 intro pins s σ H Q I h;refine gM (ha pins s σ H _ I h) fun v s1 ⟨x,H1,I1,r1,q1⟩=>?_
 exact Constant_none (is_none_gen ⟨.bl _,H1,I1,by rw[r1.JE];rfl,q1⟩)
theorem rh{j pos'}(ha:PE X a ta):PC X .IsNot a (.Constant .none j pos') (RC ta):=by
 intro pins s σ H Q I h;refine gM (ha pins s σ H _ I h) fun v s1 ⟨x,H1,I1,r1,q1⟩=>?_
 exact Constant_none (isnot_none_gen ⟨.bl _,H1,I1,by rw[r1.JE];rfl,q1⟩)
inductive XB(x:V)(Q:Bool→Hp→Prop)(H:Hp):Prop
 |mk(c:Bool)(_:x=.bl c)(_:Q c H)
noncomputable def tB(t:TE):TT:=fun σ H Q=>t σ H fun x H1=>XB x Q H1
theorem bP{op:CmpOp}{t:TE}(h:PC X op a b t)(h1:behindInMarks op b=false:=by first|exact Je _ (by decide) (by decide)|rfl):PE X (.Compare a [op] [b] pos) t:=fun pins s σ H Q I hw=>wpAny_Compare1 (h pins s σ H Q I hw) h1
theorem aT{op:CmpOp}{t:TE}(h:PC X op a b t)(h1:behindInMarks op b=false:=by first|exact Je _ (by decide) (by decide)|rfl):PT X (.Compare a [op] [b] pos) (tB t):=by
 intro pins s σ H Q I hw;refine wpAny_isTrue_Compare1 (gM (h pins s σ H _ I hw) fun v s1 h1=>gM h1 fun u s2 h2=>gM h2 fun c s3 ⟨x,H1,I1,r1,q1⟩=>?_) h1;obtain⟨d,rfl,q⟩:=q1;cases r1;exact wpAny_truthy_bool ⟨H1,I1,q⟩
theorem dR{e:Expr}{t:TE}(h:PE X e t)(he:∀ whole,isTrue e X.env whole=(do let v ←whole;standAt e.pos;holding [v] (truthy v)):=by intro _;rfl):PT X e (tB t):=by
 intro pins s σ H Q I hw;refine isTrue_plain (gM (h pins s σ H _ I hw) fun v s1 ⟨x,H1,I1,r1,q1⟩=>?_) (he _);obtain⟨d,rfl,q⟩:=q1;cases r1;exact wpAny_truthy_bool ⟨H1,I1,q⟩
variable{tA tB':TT}{rest:List Expr}
noncomputable def Sq(t u:TT):TT:=fun σ H Q=>t σ H fun c H1=>if c=true then u σ H1 Q else Q false H1
noncomputable def TB(t u:TT):TT:=fun σ H Q=>t σ H fun c H1=>if c=true then Q true H1 else u σ H1 Q
noncomputable def So(t:TT):TT:=fun σ H Q=>t σ H fun c H1=>Q (!c) H1
theorem oV(ha:PT X a tA):PW X (.BoolOp .And [a] pos) tA:=by
 intro wh pins s σ H Q I h;refine isTrue_and (gM (ha pins s σ H Q I h) fun c s1 e=>?_)
 cases c with
 |true=>exact isTrue_and_nil e
 |false=>exact e
theorem qJ(ha:PT X a tA):PW X (.BoolOp .Or [a] pos) tA:=by
 intro wh pins s σ H Q I h;refine isTrue_or (gM (ha pins s σ H Q I h) fun c s1 e=>?_)
 cases c with
 |false=>exact isTrue_or_nil e
 |true=>exact e
theorem uU(ha:PT X a tA)(hb:PW X (.BoolOp .And (b::rest) pos) tB'):PW X (.BoolOp .And (a::b::rest) pos) (Sq tA tB'):=by
 intro wh pins s σ H Q I h;refine isTrue_and (gM (ha pins s σ H _ I h) fun c s1 ⟨H1,I1,q1⟩=>?_)
 cases c with
 |true=>exact hb wh pins s1 σ H1 Q I1 q1
 |false=>exact⟨H1,I1,q1⟩
theorem ny(ha:PT X a tA)(hb:PW X (.BoolOp .Or (b::rest) pos) tB'):PW X (.BoolOp .Or (a::b::rest) pos) (TB tA tB'):=by
 intro wh pins s σ H Q I h;refine isTrue_or (gM (ha pins s σ H _ I h) fun c s1 ⟨H1,I1,q1⟩=>?_)
 cases c with
 |true=>exact⟨H1,I1,q1⟩
 |false=>exact hb wh pins s1 σ H1 Q I1 q1
theorem Es(ha:PT X a tA):PT X (.UnaryOp .Not a pos) (So tA):=by
 intro pins s σ H Q I h;exact isTrue_not (ha pins s σ H (fun c H1=>Q (!c) H1) I h)
def Dz(ta tb:TE):TE:=fun σ H Q=>ta σ H fun x H1=>∃ c,x=.bl c∧if c=true then tb σ H1 Q else Q (.bl false) H1
def Sd(ta tb:TE):TE:=fun σ H Q=>ta σ H fun x H1=>∃ c,x=.bl c∧if c=true then Q (.bl true) H1 else tb σ H1 Q
def Rf(ta:TE):TE:=fun σ H Q=>ta σ H fun x H1=>∃ c,x=.bl c∧Q (.bl (!c)) H1
theorem eE{op}{t:TE}(h:PE X a t):PE X (.BoolOp op [a] pos) t:=fun pins s σ H Q I hw=>BoolOp_one (h pins s σ H Q I hw)
theorem du(ha:PE X a ta)(hb:PE X (.BoolOp .And (b::rest) pos) tb):PE X (.BoolOp .And (a::b::rest) pos) (Dz ta tb):=by
 intro pins s σ H Q I h;refine BoolOp_and (gM (ha pins s σ H _ I h) fun v s1 ⟨x,H1,I1,r1,q1⟩=>?_);obtain⟨c,rfl,q1⟩:=q1;cases r1;refine wpAny_truthy_bool ?_
 cases c with
 |true=>exact hb pins s1 σ H1 Q I1 q1
 |false=>exact⟨.bl false,H1,I1,rfl,q1⟩
theorem IK(ha:PE X a ta)(hb:PE X (.BoolOp .Or (b::rest) pos) tb):PE X (.BoolOp .Or (a::b::rest) pos) (Sd ta tb):=by
 intro pins s σ H Q I h;refine BoolOp_or (gM (ha pins s σ H _ I h) fun v s1 ⟨x,H1,I1,r1,q1⟩=>?_);obtain⟨c,rfl,q1⟩:=q1;cases r1;refine wpAny_truthy_bool ?_
 cases c with
 |false=>exact hb pins s1 σ H1 Q I1 q1
 |true=>exact⟨.bl true,H1,I1,rfl,q1⟩
theorem Bf(ha:PE X a ta):PE X (.UnaryOp .Not a pos) (Rf ta):=by
 intro pins s σ H Q I h;refine UnaryOp_ (gM (ha pins s σ H _ I h) fun v s1 ⟨x,H1,I1,r1,q1⟩=>?_);obtain⟨c,rfl,q1⟩:=q1;cases r1;exact not_of (wpAny_truthy_bool ⟨.bl (!c),H1,I1,rfl,q1⟩)
def Tx(t:TT)(ta tb:TE):TE:=fun σ H Q=>t σ H fun c H1=>if c=true then ta σ H1 Q else tb σ H1 Q
theorem dk{c:Expr}(hc:PT X c tA)(ha:PE X a ta)(hb:PE X b tb):PE X (.IfExp c a b pos) (Tx tA ta tb):=by
 intro pins s σ H Q I h;refine wpAny_IfExp (gM (hc pins s σ H _ I h) fun d s1 ⟨H1,I1,q1⟩=>?_)
 cases d with
 |true=>exact ha pins s1 σ H1 Q I1 q1
 |false=>exact hb pins s1 σ H1 Q I1 q1
end
end L2
namespace L2
open PySem PySem.Spec PyProof.Rows
def bD(K:PySem.W.Frag)(H:Hp)(a:Addr)(xs:List V):Prop:=
 Rd H a (.lst xs)∨
  ∃(o:Obj)(its:Array Value)(n:Nat),K.lookup a=some o∧o.cls=.type "list"∧o.dict=none∧o.data=.seq its n∧its.size≤sizeLine∧Vals xs its.toList
def tK(K:PySem.W.Frag)(H:Hp)(a:Addr)(xs:List V):Prop:=
 Rd H a (.tup xs)∨
  ∃(o:Obj)(its:Array Value)(n:Nat),K.lookup a=some o∧o.cls=.type "tuple"∧o.data=.seq its n∧its.size≤sizeLine∧Vals xs its.toList
noncomputable def Ss:Value→Option V
 |.none=>some .non
 |.bool b=>some (.bl b)
 |.int i _=>some (.int i)
 |.str x _=>some (.str x)
 |.bytes b _=>some (.byt b)
 |.float b _=>some (.flt b)
 |.ref a=>some (.ref a)
 |.type n=>some (.ty n)
 |_=>none
theorem RelV.abs{x:V}{u:Value}(r:RelV x u):Ss u=some x:=by
 cases x with
 |non=>cases r;rfl
 |bl _=>cases r;rfl
 |int _=>obtain⟨t,rfl⟩:=r;rfl
 |str _=>obtain⟨t,rfl⟩:=r;rfl
 |byt _=>obtain⟨t,rfl⟩:=r;rfl
 |flt _=>obtain⟨t,rfl⟩:=r;rfl
 |ref _=>cases r;rfl
 |ty _=>cases r;rfl
theorem RelV.inj{x y:V}{u:Value}(r:RelV x u)(q:RelV y u):x=y:=Option.some.inj (r.abs.symm.trans q.abs)
theorem Vals.inj:∀{xs ys:List V}{us:List Value},Vals xs us→Vals ys us→xs=ys
 |_,_,_,.nil,.nil=>rfl
 |_,_,_,.cons r t,.cons r' t'=>by rw[r.inj r',Vals.inj t t']
section
variable{X:Cx}{pins:List (Addr×Obj)}{σ:St}{H:Hp}{s:Shared}{a:Addr}{xs ys:List V}
theorem bD.of{K:PySem.W.Frag}(h:H a=some (.lst xs)):bD K H a xs:=.inl (.inl h)
theorem tK.of{K:PySem.W.Frag}(h:H a=some (.tup xs)):tK K H a xs:=.inl (.inl h)
theorem Inv.list(I:Inv X pins σ H s)(h:bD X.K H a xs):∃ its:List Value,Vals xs its∧PlainL s.heap a its.toArray∧xs.length≤sizeLine:=by
 rcases h with h|⟨o,its,n,hk,hc,hd,hs,hz,r⟩
 ·obtain⟨z,its,n,r,e⟩:=h.ok I.fD;exact⟨its,r,⟨_,n,e,rfl,rfl,rfl⟩,z⟩
 ·refine⟨its.toList,r,⟨o,n,I.IH a o hk,hc,hd,by simpa using hs⟩,?_⟩;have e:=r.length;simp only[Array.length_toList]at e;omega
theorem Inv.tuple(I:Inv X pins σ H s)(h:tK X.K H a xs):∃ its:List Value,Vals xs its∧IsTup s.heap a its.toArray∧xs.length≤sizeLine:=by
 rcases h with h|⟨o,its,n,hk,hc,hs,hz,r⟩
 ·obtain⟨z,its,r,p⟩:=h.ok I.fD;exact⟨its,r,p,z⟩
 ·refine⟨its.toList,r,⟨o,I.IH a o hk,hc,n,by simpa using hs⟩,?_⟩;have e:=r.length;simp only[Array.length_toList]at e;omega
theorem Inv.N4(I:Inv X pins σ H s)(h:bD X.K H a xs)(h':bD X.K H a ys):xs=ys:=by
 obtain⟨its,r,⟨o,n,e,_,_,d⟩,_⟩:=I.list h;obtain⟨its',r',⟨o',n',e',_,_,d'⟩,_⟩:=I.list h';rw[e]at e';cases e';rw[d]at d'
 injection d' with d1 _
 have:its=its':=by simpa using congrArg Array.toList d1
 subst this;exact r.inj r'
end
noncomputable abbrev Cx.FE(X:Cx)(E:Value→Shared→Prop):Cx:={ X with xe:=E }
noncomputable abbrev Cx.RO(X:Cx):Cx:=X.FE fun _ _=>False
theorem Cx.Ok.FE{X:Cx}(ok:X.Ok)(E:Value→Shared→Prop):(X.FE E).Ok:=
 ⟨ok.mod,ok.kind,ok.glob,ok.blt,ok.above,ok.inj,ok.has,ok.RB,ok.hd,ok.frames,ok.PV,ok.RP,ok.bs,ok.Oz,ok.NA,ok.NW,ok.De,ok.Qw⟩
theorem Cx.Ok.vT{X:Cx}{E:Value→Shared→Prop}(ok:(X.FE E).Ok):X.Ok:=
 ⟨ok.mod,ok.kind,ok.glob,ok.blt,ok.above,ok.inj,ok.has,ok.RB,ok.hd,ok.frames,ok.PV,ok.RP,ok.bs,ok.Oz,ok.NA,ok.NW,ok.De,ok.Qw⟩
section
variable{X:Cx}{pins:List (Addr×Obj)}{σ:St}{H:Hp}{s:Shared}{E:Value→Shared→Prop}
theorem Inv.FE(I:Inv X pins σ H s)(E:Value→Shared→Prop):Inv (X.FE E) pins σ H s:=⟨I.ok.FE E,I.os,I.bare,I.base,I.loc,I.cell,I.free,I.xh,I.pin,I.fD,I.len⟩
theorem Inv.vT(I:Inv (X.FE E) pins σ H s):Inv X pins σ H s:=⟨I.ok.vT,I.os,I.bare,I.base,I.loc,I.cell,I.free,I.xh,I.pin,I.fD,I.len⟩
theorem SP.vT{D:Ends}{f:Flow}{s':Shared}(h:SP (X.FE E) pins D f s'):SP X pins D f s':=by
 cases f with
 |next=>obtain⟨σ',H',I,q⟩:=h;exact⟨σ',H',I.vT,q⟩
 |brk=>obtain⟨σ',H',I,q⟩:=h;exact⟨σ',H',I.vT,q⟩
 |cont=>obtain⟨σ',H',I,q⟩:=h;exact⟨σ',H',I.vT,q⟩
 |ret u=>obtain⟨v,σ',H',I,r,q⟩:=h;exact⟨v,σ',H',I.vT,r,q⟩
theorem Ms.RO{st:List Stmt}{t:TS}(h:Ms X.RO st t):Ms X st t:=fun pins s σ H D I hw=>
 wpAny_mono (h pins s σ H D (I.FE _) hw) (fun _ _ q=>q.vT) fun _ _ z=>False.elim z
end
section
variable{X:Cx}{st:Stmt}{rest:List Stmt}{t u:TS}{e:Expr}{te:TE}{pos:Pos}
def Q7:TS:=fun D σ H=>D.nx σ H
def RG(t u:TS):TS:=fun D σ H=>t { D with nx:=u D } σ H
theorem aY:Ms X [] Q7:=fun _ _ σ H _ I h=>wpAny_execs_nil ⟨σ,H,I,h⟩
theorem ae(h1:PS X st t)(h2:Ms X rest u):Ms X (st::rest) (RG t u):=by
 intro pins s σ H D I h;refine wpAny_execs_cons (gM (h1 pins s σ H { D with nx:=u D } I h) fun f s1 q=>?_)
 cases f with
 |next=>
  obtain⟨σ',H',I',q⟩:=q;exact h2 pins s1 σ' H' D I' q
 |ret v=>exact q
 |brk=>exact q
 |cont=>exact q
theorem ag(h1:PS X st t):Ms X [st] t:=by
 intro pins s σ H D I h;refine wpAny_execs_cons (gM (h1 pins s σ H D I h) fun f s1 q=>?_)
 cases f with
 |next=>exact wpAny_execs_nil q
 |ret v=>exact q
 |brk=>exact q
 |cont=>exact q
theorem Inv.quiet{pins:List (Addr×Obj)}{σ:St}{H:Hp}{s:Shared}(I:Inv X pins σ H s):interactive X.env=false:=by simp[interactive,I.ok.kind]
def RD(te:TE):TS:=fun D σ H=>te σ H fun _ H1=>D.nx σ H1
theorem br(he:PE X e te)(hs:swapsWith e none pos.line X.env=pure false:=by rfl):PS X (.Expr e pos) (RD te):=by
 intro pins s σ H D I h;exact wpAny_Expr_any (gM (he pins s σ H _ I h) fun v s1 ⟨x,H1,I1,r1,q1⟩=>⟨σ,H1,I1,q1⟩) I.quiet hs
def QI(te:TE):TS:=fun D σ H=>te σ H D.rt
theorem ay(he:PE X e te):PS X (.Return (some e) pos) (QI te):=by
 intro pins s σ H D I h;exact wpAny_Return_some (gM (he pins s σ H _ I h) fun v s1 ⟨x,H1,I1,r1,q1⟩=>⟨x,σ,H1,I1,r1,q1⟩)
def RI:TS:=fun D _ H=>D.rt .non H
theorem Px:PS X (.Return none pos) RI:=fun _ _ σ H _ I h=>wpAny_Return_none ⟨.non,σ,H,I,rfl,h⟩
def Su(c:TT)(t u:TS):TS:=fun D σ H=>c σ H fun b H1=>if b=true then t D σ H1 else u D σ H1
theorem bN{c:Expr}{a b:List Stmt}{tc:TT}(hc:PT X c tc)(ha:Ms X a t)(hb:Ms X b u):PS X (.If c a b pos) (Su tc t u):=by
 intro pins s σ H D I h;refine wpAny_If (gM (hc pins s σ H _ I h) fun d s1 ⟨H1,I1,q1⟩=>?_)
 cases d with
 |true=>exact ha pins s1 σ H1 D I1 q1
 |false=>exact hb pins s1 σ H1 D I1 q1
end
noncomputable abbrev TG:=V→St→Hp→(St→Hp→Prop)→Prop
def PG(X:Cx)(target:Expr)(t:TG):Prop:=
 ∀(pins:List (Addr×Obj))(s:Shared)(σ:St)(H:Hp)(v:V)(u:Value)(Q:St→Hp→Prop),Inv X pins σ H s→RelV v u→t v σ H Q→
  wpAny (model X.prog X.w) X.A (assign target X.env u) (fun _ s'=>∃ σ' H',Inv X pins σ' H' s'∧Q σ' H') X.xe s
noncomputable abbrev N2:=V→V→V→Hp→(Hp→Prop)→Prop
def Qc(X:Cx)(t:N2):Prop:=
 ∀(pins:List (Addr×Obj))(s:Shared)(σ:St)(H:Hp)(o i v:V)(ov iv u:Value)(Q:Hp→Prop),Inv X pins σ H s→RelV o ov→RelV i iv→RelV v u→t o i v H Q→
  wpAny (model X.prog X.w) X.A (setItem ov iv u) (fun _ s'=>∃ H',Inv X pins σ H' s'∧Q H') X.xe s
noncomputable abbrev RK:=V→V→Hp→VK→Prop
def Ta(X:Cx)(op:Operator)(t:RK):Prop:=
 ∀(pins:List (Addr×Obj))(s:Shared)(σ:St)(H:Hp)(x y:V)(v u:Value)(Q:VK),Inv X pins σ H s→RelV x v→RelV y u→t x y H Q→
  wpAny (model X.prog X.w) X.A (inplaceOp op v u) (EP X pins σ Q) X.xe s
section
variable{X:Cx}{pos:Pos}
noncomputable def Lw(i:Nat):TG:=fun v σ H Q=>Q (σ.set i (some v)) H
theorem mY{i:Nat}{x:Str}(hN:X.N.Nodup)(hi:X.N[i]?=some x)(hx:Loc X.env.scope x)(hf:X.fn x=true∨X.env.scope.names.lookup x=some .local:=by first|exact .inl rfl|exact .inr rfl|assumption):PG X (.Name x pos) (Lw i):=by
 intro pins s σ H v u Q I r h;exact wpAny_assign_Name (JI I hN hi hx r (fun s' I'=>⟨_,H,I',h⟩) hf)
noncomputable def SM(to ti:TE)(t:N2):TG:=fun v σ H Q=>to σ H fun o H1=>ti σ H1 fun i H2=>t o i v H2 fun H3=>Q σ H3
theorem oz{o i:Expr}{to ti:TE}{t:N2}(ho:PE X o to)(hi:PE X i ti)(hs:Qc X t)
  (ha:∀ v,assign (.Subscript o i pos) X.env v=(do
   let ov ←holding [v] (eval o X.env)
   let iv ←holding [v,ov] (eval i X.env)
   standAt pos
   holding [v,ov,iv] (setItem ov iv v)
   release [v,ov,iv] []):=by intro _;rfl):PG X (.Subscript o i pos) (SM to ti t):=by
 intro pins s σ H v u Q I r h;rw[ha];refine wpAny_bind (wpAny_holding (gM (ho pins s σ H _ I h) fun ov s1 ⟨x,H1,I1,r1,q1⟩=>?_));refine wpAny_bind (wpAny_holding (gM (hi pins s1 σ H1 _ I1 q1) fun iv s2 ⟨y,H2,I2,r2,q2⟩=>?_));refine wpAny_bind (wpAny_standAt (wpAny_bind (wpAny_holding (gM (hs pins s2 σ H2 x y v ov iv u _ I2 r1 r2 r q2) fun _ s3 ⟨H3,I3,q3⟩=>?_))));exact wpAny_release ⟨σ,H3,I3,q3⟩
def Qm(te:TE)(g:TG):TS:=fun D σ H=>te σ H fun x H1=>g x σ H1 D.nx
theorem nP{tg e:Expr}{te:TE}{g:TG}(he:PE X e te)(hg:PG X tg g)(hs:swapsWithSole [tg] e pos.line X.env=pure false:=by rfl)(hw:swappedStores [tg] e X.env=pure none:=by rfl)
  (h1:(assignEach [tg] X.env).map (·.2)=[assign tg X.env]:=by rfl):PS X (.Assign [tg] e pos) (Qm te g):=by
 intro pins s σ H D I h;refine wpAny_Assign_stores (gM (he pins s σ H _ I h) fun v s1 ⟨x,H1,I1,r1,q1⟩=>?_) hs hw;rw[h1];exact gM (hg pins s1 σ H1 x v _ I1 r1 q1) fun _ s2 q=>q
theorem aX{i:Nat}{x:Str}{e:Expr}{te:TE}{pos':Pos}(hN:X.N.Nodup)(hi:X.N[i]?=some x)(hx:Loc X.env.scope x)(he:PE X e te)(hs:swapsWith e (some (.Name x pos')) pos.line X.env=pure false:=by rfl)(hf:X.fn x=true∨X.env.scope.names.lookup x=some .local:=by first|exact .inl rfl|exact .inr rfl|assumption) :
  PS X (.Assign [.Name x pos'] e pos) (Qm te (Lw i)):=by
 intro pins s σ H D I h;refine wpAny_Assign_Name (gM (he pins s σ H _ I h) fun v s1 ⟨y,H1,I1,r1,q1⟩=>?_) hs;exact JI I1 hN hi hx r1 (fun s2 I2=>⟨_,H1,I2,q1⟩) hf
def Rb(to ti te:TE)(tget:V→V→Hp→VK→Prop)(tip:RK)(tset:N2):TS:=fun D σ H=>to σ H fun o H1=>ti σ H1 fun i H2=>tget o i H2 fun x H3=>te σ H3 fun y H4=>tip x y H4 fun z H5=>tset o i z H5 fun H6=>D.nx σ H6
def Rh(X:Cx)(t:V→V→Hp→VK→Prop):Prop:=
 ∀(pins:List (Addr×Obj))(s:Shared)(σ:St)(H:Hp)(o i:V)(ov iv:Value)(Q:VK),Inv X pins σ H s→RelV o ov→RelV i iv→t o i H Q→
  wpAny (model X.prog X.w) X.A (getItem ov iv) (EP X pins σ Q) X.xe s
theorem OK{o i e:Expr}{to ti te:TE}{tget:V→V→Hp→VK→Prop}{tip:RK}{tset:N2}{op:Operator}{tM:Pos}(ho:PE X o to)(hi:PE X i ti)(hg:Rh X tget)(he:PE X e te)(hp:Ta X op tip)(hs:Qc X tset)
  (ha:∀ ov iv new,augStore i ov iv new=(do holding [new,ov,iv] (setItem ov iv new);release [new,ov,iv] [];pure .next):=by intros;rfl):PS X (.AugAssign (.Subscript o i tM) op e pos) (Rb to ti te tget tip tset):=by
 intro pins s σ H D I h;refine wpAny_AugAssign_SubscriptAny (gM (ho pins s σ H _ I h) fun ov s1 ⟨x1,H1,I1,r1,q1⟩=>?_) ha;refine gM (hi pins s1 σ H1 _ I1 q1) fun iv s2 ⟨x2,H2,I2,r2,q2⟩=>?_
 refine gM (hg pins s2 σ H2 x1 x2 ov iv _ I2 r1 r2 q2) fun old s3 ⟨x3,H3,I3,r3,q3⟩=>?_
 refine gM (he pins s3 σ H3 _ I3 q3) fun v s4 ⟨x4,H4,I4,r4,q4⟩=>?_
 refine gM (hp pins s4 σ H4 x3 x4 old v _ I4 r3 r4 q4) fun new s5 ⟨x5,H5,I5,r5,q5⟩=>?_
 exact gM (hs pins s5 σ H5 x1 x2 x5 ov iv new _ I5 r1 r2 r5 q5) fun _ s6 ⟨H6,I6,q6⟩=>⟨σ,H6,I6,q6⟩
noncomputable def TH(f:Int→Int→Int):RK:=fun x y H Q=>∃ i j,x=.int i∧y=.int j∧Q (.int (f i j)) H
theorem Qy:Ta X .Add (TH fun i j=>i+j):=by
 intro pins s σ H x y v u Q I r1 r2 h;obtain⟨i,j,e1,e2,q⟩:=h;subst e1;subst e2;obtain⟨t,rfl⟩:=r1;obtain⟨t',rfl⟩:=r2;exact iadd_int ⟨.int _,H,I.tok _,⟨_,rfl⟩,q⟩
end
section
variable{X:Cx}{pos:Pos}
def Qg(c:TT)(tb:TS):TS:=fun D σ H=>∃ W:Nat→St→Hp→Prop,(∃ m,W m σ H)∧∀ m σ H,W m σ H→
 c σ H fun b H1=>if b=true then ∃ N:St→Hp→Prop,(∀ σ' H',N σ' H'→∃ m',m'<m∧W m' σ' H')∧tb { D with nx:=N,ct:=N,bk:=D.nx } σ H1 else D.nx σ H1
theorem IX{c:Expr}{body:List Stmt}{tc:TT}{tb:TS}(hp:PassesOwn (model X.prog X.w) X.A X.env X.xe)(hc:PT X c tc)(hb:Ms X body tb):PS X (.While c body [] pos) (Qg tc tb):=by
 intro pins s σ H D I h;obtain⟨W,⟨m0,w0⟩,turn⟩:=h;refine wpAny_While (codeAny_whileLoop (fun n s'=>∃ σ' H',Inv X pins σ' H' s'∧W n σ' H') ?_ m0 ⟨σ,H,I,w0⟩)
 rintro n s1 ⟨σ1,H1,I1,w1⟩
 refine wpAny_passesOwn hp (gM (hc pins s1 σ1 H1 _ I1 (turn n σ1 H1 w1)) fun b s2 ⟨H2,I2,q2⟩=>?_)
 cases b with
 |true=>
  obtain⟨N,hN,q2⟩:=q2;rw[if_pos rfl];refine wpAny_passesOwn hp (gM (hb pins s2 σ1 H2 _ I2 q2) fun f s3 q3=>?_)
  cases f with
  |next=>
   obtain⟨σ3,H3,I3,n3⟩:=q3;obtain⟨m',hm,w3⟩:=hN σ3 H3 n3;exact⟨m',hm,σ3,H3,I3,w3⟩
  |cont=>
   obtain⟨σ3,H3,I3,n3⟩:=q3;obtain⟨m',hm,w3⟩:=hN σ3 H3 n3;exact⟨m',hm,σ3,H3,I3,w3⟩
  |brk=>exact q3
  |ret v=>exact q3
 |false=>
  rw[if_neg Bool.false_ne_true];exact wpAny_execs_nil ⟨σ1,H2,I2,q2⟩
end
structure It where
 go:Nat→Hp→Prop
 Pq:Nat→Hp→V→Hp→Prop
 stop:Nat→Hp→Prop
def F6(X:Cx)(pins:List (Addr×Obj))(H:Hp)(b:Addr):Prop:=
 H b=none∧b≠X.env.locals∧b ∉ X.fs∧(b∈X.ex∨X.s₀.heap.objs.size≤b)∧(∀ x c,X.env.cells.lookup x=some c→c≠b)∧∀ p∈X.pn++pins,p.1≠b
theorem Inv.Ph{X:Cx}{pins:List (Addr×Obj)}{σ:St}{H H':Hp}{s:Shared}{b:Addr}(I:Inv X pins σ H s)(hb:s.heap.objs.size≤b)(hn:H' b=none):F6 X pins H' b:=by
 refine⟨hn,Nat.ne_of_gt (Nat.lt_of_lt_of_le I.lt hb),I.RY hb,.inr (Nat.le_trans I.sz hb),fun x c e z=>?_,fun p hp z=>?_⟩
 ·obtain⟨v,q⟩:=I.cell x c e;exact absurd (Nat.lt_of_lt_of_le q.lt (by rw[z];exact hb)) (Nat.lt_irrefl _)
 ·exact absurd (Nat.lt_of_lt_of_le (Heap.lt_size (I.pin p hp).1) (by rw[z];exact hb)) (Nat.lt_irrefl _)
structure Turn(P:Program)(w:World)(K:PySem.W.Frag)(tg:Expr)(J:It)(fp:List Addr)(it:Addr)(tn:Nat→Heap→Prop):Prop where
 mem:it∈fp
 obj:∀ i h,tn i h→∀ b∈fp,∃ o,h.get? b=some o∧∀ v,o.data≠.cell v
 keep:∀ i h h',tn i h→(∀ b∈fp,∀ o,h.get? b=some o→h'.get? b=some o)→tn i h'
 item:∀(X:Cx),X.prog=P→X.w=w→X.K=K→X.calm=true→∀(i:Nat)(pins:List (Addr×Obj))(s:Shared)(σ:St)(H:Hp)(E:Value→Shared→Prop),Inv X pins σ H s→(∀ b∈fp,F6 X pins H b)→tn i s.heap→J.go i H→
  wpAny (model P w) X.A (pyNext (.ref it)) (fun r s1=>∃ u,r=some u∧
   wpAny (model P w) X.A (letOwnedTupleGo tg (.ref it) u) (fun _ s2=>∃ x H',Inv X pins σ H' s2∧RelV x u∧J.Pq i H x H'∧tn (i+1) s2.heap∧∀ b∈fp,H' b=none) E s1) E s
 done:∀(X:Cx),X.prog=P→X.w=w→X.K=K→X.calm=true→∀(i:Nat)(pins:List (Addr×Obj))(s:Shared)(σ:St)(H:Hp)(E:Value→Shared→Prop),Inv X pins σ H s→(∀ b∈fp,F6 X pins H b)→tn i s.heap→J.stop i H→
  wpAny (model P w) X.A (pyNext (.ref it)) (fun r s1=>r=none∧Inv X pins σ H s1) E s
 self:∀(A:Around)(i:Nat)(s:Shared)(Q:Value→Shared→Prop)(E:Value→Shared→Prop),tn i s.heap→Q (.ref it) s→wpAny (model P w) A (pyIter (.ref it)) Q E s
noncomputable abbrev TI:=St→Hp→(It→Hp→Prop)→Prop
def Sv(X:Cx)(pins:List (Addr×Obj))(σ:St)(tg:Expr)(R:It→Hp→Prop)(itv:Value)(s2:Shared):Prop:=
 ∃(it:Addr)(fp:List Addr)(tn:Nat→Heap→Prop)(J:It)(H':Hp),itv=.ref it∧Inv X pins σ H' s2∧Turn X.prog X.w X.K tg J fp it tn∧tn 0 s2.heap∧(∀ b∈fp,F6 X pins H' b)∧R J H'
def PI(X:Cx)(tg iter:Expr)(wi:TI):Prop:=
 ∀(pins:List (Addr×Obj))(s:Shared)(σ:St)(H:Hp)(R:It→Hp→Prop),Inv X pins σ H s→wi σ H R→
  wpAny (model X.prog X.w) X.A (eval iter X.env) (fun v s1=>wpAny (model X.prog X.w) X.A (pyIter v) (Sv X pins σ tg R) X.xe s1) X.xe s
theorem Oi{M:Model}{A:Around}{E:Value→Shared→Prop}{s:Shared}{tg:Expr}{it:Addr}{u:Value}{o:Obj}{n:String}{vs:Array Value}{Q:Unit→Shared→Prop}(ho:s.heap.get? it=some o)(hc:o.cls=.type n)(hd:o.data=.fields vs)
  (hn:["enumerate","zip","dict_itemiterator","dict_reverseitemiterator","odict_iterator","itertools.zip_longest","itertools.pairwise"].contains n=false) (hQ:Q () s):wpAny M A (letOwnedTupleGo tg (.ref it) u) Q E s:=by
 unfold letOwnedTupleGo
 cases tg<;>first
  |exact wpAny_pure hQ
  | (cases u<;>first
    |exact wpAny_pure hQ
    | (refine wpAny_bind (wpAny_load ho ?_)
       rw[hc,hd];show wpAny M A (if(["enumerate","zip","dict_itemiterator","dict_reverseitemiterator","odict_iterator","itertools.zip_longest","itertools.pairwise"].contains n&&vs[0]?==some (rawInt _))=true then _ else _) Q E s
       rw[if_neg (by intro h;rw[hn,Bool.false_and]at h;cases h)]
       exact wpAny_pure hQ))
noncomputable def Nz(K:PySem.W.Frag)(a:Addr):It:=
 ⟨fun i H=>∃ xs x,bD K H a xs∧xs[i]?=some x,fun i H x H'=>H'=H∧∀ xs,bD K H a xs→xs[i]?=some x,fun i H=>∃ xs,bD K H a xs∧xs.length≤i⟩
noncomputable def PJ(lo:Int)(n:Nat):It:=⟨fun i _=>i<n,fun i H x H'=>H'=H∧x=.int (lo+i),fun i _=>n≤i⟩
theorem Mo{P:Program}{w:World}{K:PySem.W.Frag}{tg:Expr}(a it:Addr):Turn P w K tg (Nz K a) [it] it (fun i h=>h.IsListIter it a i) where
 mem:=by simp
 obj:=fun i h st b hb=>by
  have e:b=it:=by simpa using hb
  subst e;obtain⟨o,e,c,d⟩:=st;exact⟨o,e,fun v z=>by rw[d]at z;cases z⟩
 keep:=fun i h h' st k=>st.at fun o e=>k it (by simp) o e
 item:=by
  intro X hP hw hK hc i pins s σ H E I hf st hg;subst hP hw hK;obtain⟨xs,x,hq,hx⟩:=hg;obtain⟨its,rv,p,hz⟩:=I.list hq;obtain⟨u,hu,ru⟩:=rv.get hx;obtain⟨f0,f1,f2,f3,f4,f5⟩:=hf it (by simp);refine wpAny_pyNext_list_item st p.isList (x:=u) (by simpa using hu) fun h' st' sb=>?_
  have I1:Inv X pins σ H { s with heap:=h' }:=I.turned (t':=s.toks) (fun b o hb e=>(sb.2 b hb).trans e) f0 f1 f3 f4 f5;obtain⟨o,e,c,d⟩:=id st';exact⟨u,rfl,Oi (s:={ s with heap:=h' }) e c d (by decide) ⟨x,H,I1,ru,⟨rfl,fun ys hy=>by rw[I.N4 hy hq];exact hx⟩,st',fun b hb=>(hf b hb).1⟩⟩
 done:=by
  intro X hP hw hK hc i pins s σ H E I hf st hg;subst hP hw hK;obtain⟨xs,hq,hx⟩:=hg;obtain⟨its,rv,p,hz⟩:=I.list hq;obtain⟨f0,f1,f2,f3,f4,f5⟩:=hf it (by simp);have hl:=rv.length;exact wpAny_pyNext_list_end (I.ok.hd hc) st p.isList (by simp;omega) fun h' eb=>⟨rfl,I.turned (t':=s.toks) (fun b o hb e=>eb b o hb e) f0 f1 f3 f4 f5⟩
 self:=fun _ _ _ _ _ st h=>wpAny_pyIter_listiter st h
theorem Kf{P:Program}{w:World}{K:PySem.W.Frag}{tg:Expr}(it:Addr)(lo:Int)(n:Nat):Turn P w K tg (PJ lo n) [it] it (fun i h=>IsRangeIter h it (lo+(i:Nat)*1) ((n:Int)-(i:Nat)) 1) where
 mem:=by simp
 obj:=fun i h st b hb=>by
  have e:b=it:=by simpa using hb
  subst e
  exact⟨_,st,fun v z=>by
   have z':Data.fields _=Data.cell v:=z
   cases z'⟩
 keep:=fun i h h' st k=>k it (by simp) _ st
 item:=by
  intro X hP hw hK hc i pins s σ H E I hf st hg;subst hP hw hK;obtain⟨f0,f1,f2,f3,f4,f5⟩:=hf it (by simp);have W:=Walks.range (prog:=X.prog) (w:=X.w) (I.ok.hd hc) it lo 1 n;refine W.item i s _ _ hg st fun v h' tk hv st' kk=>?_
  obtain⟨t,rfl⟩:=hv;have I1:Inv X pins σ H { s with heap:=h',toks:=tk }:=I.turned (fun b o hb e=>kk b o (by simpa using hb) e) f0 f1 f3 f4 f5;refine⟨_,rfl,Oi (s:={ s with heap:=h',toks:=tk }) (n:="range_iterator") st' rfl rfl (by decide) ⟨.int (lo+i),H,I1,⟨t,?_⟩,⟨rfl,rfl⟩,st',fun b hb=>(hf b hb).1⟩⟩
  rw[Int.mul_one]
 done:=by
  intro X hP hw hK hc i pins s σ H E I hf st hg;subst hP hw hK;obtain⟨f0,f1,f2,f3,f4,f5⟩:=hf it (by simp);exact wpAny_pyNext_range_end (I.ok.hd hc) st (by have:n≤i:=hg;omega) fun h' eb=>⟨rfl,I.turned (t':=s.toks) (fun b o hb e=>eb b o hb e) f0 f1 f3 f4 f5⟩
 self:=fun _ _ _ _ _ st h=>wpAny_pyIter_rangeiter st h
end L2
namespace L2
open PySem PySem.Spec PyProof.Rows
section
variable{X:Cx}{tg:Expr}
noncomputable def Rv(K:PySem.W.Frag)(tl:TE):TI:=fun σ H R=>tl σ H fun x H1=>∃ a,x=.ref a∧(∃ xs,bD K H1 a xs)∧R (Nz K a) H1
theorem uV{l:Expr}{tl:TE}(hl:PE X l tl):PI X tg l (Rv X.K tl):=by
 intro pins s σ H R I h;refine gM (hl pins s σ H _ I h) fun v s1 ⟨x,H1,I1,r1,q1⟩=>?_
 obtain⟨a,e,⟨xs,hq⟩,q⟩:=q1;subst e;cases r1;obtain⟨its,rv,p,hz⟩:=I1.list hq;refine wpAny_pyIter_list p.isList ?_;refine⟨s1.heap.objs.size,[s1.heap.objs.size],_,_,H1,rfl,I1.kept (t':=s1.toks) fun b o e=>Heap.get?_push_of_some _ e,Mo a _,⟨_,Heap.get?_push_size _ rfl,rfl,rfl⟩,fun b hb=>?_,q⟩;have e:b=s1.heap.objs.size:=by simpa using hb
 subst e;exact I1.Ph (Nat.le_refl _) (I1.fD.fresh (Nat.le_refl _))
theorem N6{pins:List (Addr×Obj)}{σ:St}{H:Hp}{s:Shared}{R:It→Hp→Prop}{E:Value→Shared→Prop}{lo hi:Int}{t u v:Tok}{tk:Nat}(I:Inv X pins σ H s)(h1:-(2^62)≤lo)(h2:lo<2^62)(h3:-(2^62)≤hi)(h4:hi<2^62)
  (q:R (PJ lo (hi-lo).toNat) H):wpAny (model X.prog X.w) X.A (pyIter (.ref s.heap.objs.size)) (Sv X pins σ tg R) E { s with heap:=s.heap.push { cls:=.type "range",data:=.fields #[.int lo t,.int hi u,.int 1 v] },toks:=tk }:=by
 refine wpAny_pyIter_range (IsRange.new ..) (small_one h1 h2 h3 h4) ?_;have I1:Inv X pins σ H { s with heap:=s.heap.push { cls:=.type "range",data:=.fields #[.int lo t,.int hi u,.int 1 v] },toks:=tk }:=I.kept fun b o e=>Heap.get?_push_of_some _ e
 refine⟨(s.heap.push { cls:=.type "range",data:=.fields #[.int lo t,.int hi u,.int 1 v] }).objs.size,[(s.heap.push { cls:=.type "range",data:=.fields #[.int lo t,.int hi u,.int 1 v] }).objs.size],_,_,H,rfl,
  I1.kept (t':=tk) fun b o e=>Heap.get?_push_of_some _ e,Kf _ lo (hi-lo).toNat,?_,fun b hb=>?_,q⟩
 ·have e1:lo+((0:Nat):Int)*1=lo:=by simp
  have e2:(((hi-lo).toNat:Nat):Int)-((0:Nat):Int)=Builtin.Range.rangeSize lo hi 1:=by rw[rangeSize_one];split<;>omega
  show IsRangeIter _ _ (lo+((0:Nat):Int)*1) ((((hi-lo).toNat:Nat):Int)-((0:Nat):Int)) 1;rw[e1,e2];exact Heap.get?_push_size _ rfl
 ·have e:b=(s.heap.push { cls:=.type "range",data:=.fields #[.int lo t,.int hi u,.int 1 v] }).objs.size:=by simpa using hb
  subst e;exact I1.Ph (Nat.le_refl _) (I1.fD.fresh (Nat.le_refl _))
noncomputable def Rj(ta:TA):TI:=fun σ H R=>ta σ H fun vs H1=>∃ j:Int,vs=[.int j]∧-(2^62)≤j∧j<2^62∧R (PJ 0 j.toNat) H1
theorem Ga{a:Expr}{ta:TA}{p pos:Pos}(hg:Gl X "range")(hm:X.mg "range"=none)(ha:PA X [a] ta)(hs:starEach [a] X.env=[(false,eval a X.env)]:=by rfl):PI X tg (.Call (.Name "range" p) [a] [] pos) (Rj ta):=by
 intro pins s σ H R I h;refine Call_ (Kq I hg hm boot_range (PyProof.Rows.callWith_type1 (gM (ha pos pins s σ H _ I h) fun us s1 ⟨vs,H1,I1,r1,q1⟩=>?_) hs rfl));obtain⟨j,e,q1,q2,q⟩:=q1;subst e
 cases r1 with
 |cons r rr=>
  cases rr;obtain⟨t,rfl⟩:=r;exact call_range_1 (N6 I1 (by omega) (by omega) q1 q2 (by simpa using q))
def R0(wi:TI)(g:TG)(tb:TS):TS:=fun D σ H=>wi σ H fun J H1=>∃ W:Nat→Nat→St→Hp→Prop,(∃ m,W 0 m σ H1)∧∀ i m σ H,W i m σ H→
 (J.stop i H∧D.nx σ H)∨(J.go i H∧∃ N:St→Hp→Prop,(∀ σ' H',N σ' H'→∃ m',m'<m∧W (i+1) m' σ' H')∧∀ x H',J.Pq i H x H'→g x σ H' fun σ2 H2=>tb { D with nx:=N,ct:=N,bk:=D.nx } σ2 H2)
noncomputable def DS(fp:List Addr)(h:Heap):List (Addr×Obj):=fp.filterMap fun b=>(h.get? b).map fun o=>(b,o)
theorem zi{fp:List Addr}{h:Heap}{b:Addr}{o:Obj}(hb:b∈fp)(e:h.get? b=some o):(b,o)∈DS fp h:=List.mem_filterMap.mpr ⟨b,hb,by rw[e];rfl⟩
theorem M3{fp:List Addr}{h:Heap}{p:Addr×Obj}(hp:p∈DS fp h):p.1∈fp∧h.get? p.1=some p.2:=by
 obtain⟨b,hb,e⟩:=List.mem_filterMap.mp hp
 cases q:h.get? b with
 |none=>rw[q]at e;cases e
 |some o=>
  rw[q]at e;have e':(b,o)=p:=Option.some.inj e;subst e';exact⟨hb,q⟩
theorem Inv.pinned{pins:List (Addr×Obj)}{σ:St}{H:Hp}{s:Shared}{fp:List Addr}(I:Inv X pins σ H s)(hf:∀ b∈fp,F6 X pins H b)(ho:∀ b∈fp,∃ o,s.heap.get? b=some o∧∀ v,o.data≠.cell v):Inv X (pins++DS fp s.heap) σ H s:=
 I.Lv fun p hp=>(List.mem_append.mp hp).elim (fun z=>I.pin p (List.mem_append_right _ z)) fun z=>by
  obtain⟨hb,e⟩:=M3 z;obtain⟨f0,f1,f2,_⟩:=hf p.1 hb;obtain⟨o,e',d⟩:=ho p.1 hb;rw[e]at e';cases e';exact⟨e,f0,f1,f2,d⟩
theorem Inv.Aw{pins pl:List (Addr×Obj)}{σ:St}{H:Hp}{s:Shared}(I:Inv X (pins++pl) σ H s):Inv X pins σ H s:=I.Lv fun p hp=>I.pin p (List.mem_append_right _ (List.mem_append_left _ hp))
theorem Qi{iter:Expr}{body:List Stmt}{wi:TI}{g:TG}{tb:TS}{pos:Pos}(hp:PassesOwn (model X.prog X.w) X.A X.env X.xe)(hc:X.calm=true)(hi:PI X tg iter wi)(hg:PG X tg g)(hb:Ms X body tb)
  (hs:∀ x,foldedSetIterable iter X.env x=pure x:=by intro _;rfl):PS X (.For tg iter body [] pos) (R0 wi g tb):=by
 intro pins s σ H D I h;refine wpAny_For (gM (hi pins s σ H _ I h) fun v s1 h1=>gM h1 fun itv s2 h2=>?_) hs;obtain⟨it,fp,tn,J,H2,e,I2,T,st2,f2,W,⟨m0,w0⟩,turn⟩:=h2;subst e;have stat:∀{H':Hp},(∀ b∈fp,H' b=none)→∀ b∈fp,F6 X pins H' b:=fun hn b hb=>⟨hn b hb,(f2 b hb).2⟩
 refine codeAny_forLoop_any (fun n s'=>∃ i σ' H',Inv X pins σ' H' s'∧tn i s'.heap∧(∀ b∈fp,H' b=none)∧W i n σ' H') ?_ m0 ⟨0,σ,H2,I2,st2,fun b hb=>(f2 b hb).1,w0⟩
 rintro n s3 ⟨i,σ3,H3,I3,st3,fr3,w3⟩
 rcases turn i n σ3 H3 w3 with⟨stop,qn⟩|⟨go,N,hN,step⟩
 ·refine wpAny_passesOwn hp (gM (T.done X rfl rfl rfl hc i pins s3 σ3 H3 X.xe I3 (stat fr3) st3 stop) fun r s4 ⟨hr,I4⟩=>?_);subst hr;exact wpAny_execs_nil ⟨σ3,H3,I4,qn⟩
 ·refine wpAny_passesOwn hp (gM (T.item X rfl rfl rfl hc i pins s3 σ3 H3 X.xe I3 (stat fr3) st3 go) fun r s4 ⟨u,hr,h4⟩=>?_);subst hr;refine wpAny_passesOwn hp (gM h4 fun _ s5 ⟨x,H5,I5,r5,y5,st5,fr5⟩=>?_);have I5':=I5.pinned (stat fr5) (T.obj _ _ st5);refine wpAny_passesOwn hp (gM (hg _ s5 σ3 H5 x u _ I5' r5 (step x H5 y5)) fun _ s6 ⟨σ6,H6,I6,q6⟩=>?_);refine wpAny_passesOwn hp (gM (hb _ s6 σ6 H6 _ I6 q6) fun f s7 q7=>?_);have again:∀{σ7:St}{H7:Hp},Inv X (pins++DS fp s5.heap) σ7 H7 s7→N σ7 H7→∃ m,m<n∧∃ i σ' H',Inv X pins σ' H' s7∧tn i s7.heap∧(∀ b∈fp,H' b=none)∧W i m σ' H':=fun{σ7 H7} I7 n7=>by
   obtain⟨m',hm,w7⟩:=hN σ7 H7 n7;refine⟨m',hm,i+1,σ7,H7,I7.Aw,T.keep _ _ _ st5 fun b hb o e=>(I7.pin (b,o) (List.mem_append_right _ (List.mem_append_right _ (zi hb e)))).1,fun b hb=>?_,w7⟩;obtain⟨o,e,d⟩:=T.obj _ _ st5 b hb;exact (I7.pin (b,o) (List.mem_append_right _ (List.mem_append_right _ (zi hb e)))).2.1
  cases f with
  |next=>obtain⟨σ7,H7,I7,n7⟩:=q7;exact again I7 n7
  |cont=>obtain⟨σ7,H7,I7,n7⟩:=q7;exact again I7 n7
  |brk=>obtain⟨σ7,H7,I7,q7⟩:=q7;exact⟨σ7,H7,I7.Aw,q7⟩
  |ret v=>obtain⟨x7,σ7,H7,I7,r7,q7⟩:=q7;exact⟨x7,σ7,H7,I7.Aw,r7,q7⟩
end
theorem Od{K:PySem.W.Frag}{a:Addr}{xs:List V}{g:TG}{tb:TS}{D:Ends}{σ:St}{H:Hp}(Pv:Nat→St→Hp→Prop)(h0:Pv 0 σ H)(hl:∀ i σ H,i≤xs.length→Pv i σ H→bD K H a xs)
  (hs:∀ i x σ H,xs[i]?=some x→Pv i σ H→g x σ H fun σ2 H2=>tb { D with nx:=Pv (i+1),ct:=Pv (i+1),bk:=D.nx } σ2 H2) (hd:∀ σ H,Pv xs.length σ H→D.nx σ H) :
  ∃ W:Nat→Nat→St→Hp→Prop,(∃ m,W 0 m σ H)∧∀ i m σ H,W i m σ H→
   ((Nz K a).stop i H∧D.nx σ H)∨((Nz K a).go i H∧∃ N:St→Hp→Prop,(∀ σ' H',N σ' H'→∃ m',m'<m∧W (i+1) m' σ' H')∧∀ x H',(Nz K a).Pq i H x H'→g x σ H' fun σ2 H2=>tb { D with nx:=N,ct:=N,bk:=D.nx } σ2 H2):=by
 refine⟨fun i m σ H=>m=xs.length-i∧i≤xs.length∧Pv i σ H,⟨xs.length,by simp,Nat.zero_le _,h0⟩,?_⟩
 rintro i m σ H ⟨rfl,hi,p⟩
 have q:=hl i σ H hi p;by_cases hlt:i<xs.length
 ·refine .inr ⟨⟨xs,xs[i],q,by simp[hlt]⟩,Pv (i+1),fun σ' H' p'=>⟨xs.length-(i+1),by omega,rfl,hlt,p'⟩,fun x H' y=>?_⟩;obtain⟨e,y⟩:=y;subst e;exact hs i x σ _ (y xs q) p
 ·have e:i=xs.length:=by omega
  subst e;exact .inl ⟨⟨xs,q,Nat.le_refl _⟩,hd σ H p⟩
theorem QT{lo:Int}{n:Nat}{g:TG}{tb:TS}{D:Ends}{σ:St}{H:Hp}(Pv:Nat→St→Hp→Prop)(h0:Pv 0 σ H)
  (hs:∀ i σ H,i<n→Pv i σ H→g (.int (lo+i)) σ H fun σ2 H2=>tb { D with nx:=Pv (i+1),ct:=Pv (i+1),bk:=D.nx } σ2 H2) (hd:∀ σ H,Pv n σ H→D.nx σ H) :
  ∃ W:Nat→Nat→St→Hp→Prop,(∃ m,W 0 m σ H)∧∀ i m σ H,W i m σ H→
   ((PJ lo n).stop i H∧D.nx σ H)∨((PJ lo n).go i H∧∃ N:St→Hp→Prop,(∀ σ' H',N σ' H'→∃ m',m'<m∧W (i+1) m' σ' H')∧∀ x H',(PJ lo n).Pq i H x H'→g x σ H' fun σ2 H2=>tb { D with nx:=N,ct:=N,bk:=D.nx } σ2 H2):=by
 refine⟨fun i m σ H=>m=n-i∧i≤n∧Pv i σ H,⟨n,by simp,Nat.zero_le _,h0⟩,?_⟩
 rintro i m σ H ⟨rfl,hi,p⟩
 by_cases hlt:i<n
 ·refine .inr ⟨hlt,Pv (i+1),fun σ' H' p'=>⟨n-(i+1),by omega,rfl,hlt,p'⟩,fun x H' y=>?_⟩;obtain⟨e,y⟩:=y;subst e y;exact hs i σ _ hlt p
 ·have e:i=n:=by omega
  subst e;exact .inl ⟨Nat.le_refl _,hd σ H p⟩
end L2
namespace L2
open PySem PySem.Spec PyProof.Rows
noncomputable abbrev R2:=V→V→Hp→VK→Prop
def MP(X:Cx)(f:Value→Value→Sem Value)(r:R2):Prop:=
 ∀(pins:List (Addr×Obj))(s:Shared)(σ:St)(H:Hp)(x y:V)(v u:Value)(Q:VK),Inv X pins σ H s→RelV x v→RelV y u→r x y H Q→
  wpAny (model X.prog X.w) X.A (f v u) (EP X pins σ Q) X.xe s
def SG(X:Cx)(f:Value→Sem Value)(r:V→Hp→VK→Prop):Prop:=
 ∀(pins:List (Addr×Obj))(s:Shared)(σ:St)(H:Hp)(x:V)(v:Value)(Q:VK),Inv X pins σ H s→RelV x v→r x H Q→
  wpAny (model X.prog X.w) X.A (f v) (EP X pins σ Q) X.xe s
def zD(X:Cx)(f:Value)(r:List V→Hp→VK→Prop):Prop:=
 ∀(pins:List (Addr×Obj))(s:Shared)(σ:St)(H:Hp)(xs:List V)(us:List Value)(Q:VK),Inv X pins σ H s→Vals xs us→r xs H Q→
  wpAny (model X.prog X.w) X.A (call f us) (EP X pins σ Q) X.xe s
def RL(r:R2)(ta tb:TE):TE:=fun σ H Q=>ta σ H fun x H1=>tb σ H1 fun y H2=>r x y H2 Q
def Tv(r:V→Hp→VK→Prop)(ta:TE):TE:=fun σ H Q=>ta σ H fun x H1=>r x H1 Q
noncomputable def rI(C:Int→Int→Prop)(g:Int→Int→V):R2:=fun x y H Q=>∃ i j,x=.int i∧y=.int j∧C i j∧Q (g i j) H
inductive Tn(g:Int→Int→V)(x y:V)(H:Hp)(Q:VK):Prop
 |mk(i j:Int)(_:x=.int i)(_:y=.int j)(_:Q (g i j) H)
noncomputable def R9(g:Int→Int→V):R2:=fun x y H Q=>Tn g x y H Q
noncomputable def rU(g:Int→V):V→Hp→VK→Prop:=fun x H Q=>∃ i,x=.int i∧Q (g i) H
section
variable{X:Cx}{a b c:Expr}{ta tb tc:TE}{pos:Pos}
theorem Qs(ha:PE X a ta)(hb:PE X b tb){pins:List (Addr×Obj)}{s:Shared}{σ:St}{H:Hp}{R:V→V→Hp→Prop}(I:Inv X pins σ H s)
  (h:ta σ H fun x H1=>tb σ H1 fun y H2=>R x y H2) {Q:Value→Shared→Prop} {f:Value→Value→Sem Value}
  (hf:∀ v u s2 x y H2,Inv X pins σ H2 s2→RelV x v→RelV y u→R x y H2→wpAny (model X.prog X.w) X.A (f v u) Q X.xe s2) :
  wpAny (model X.prog X.w) X.A (eval a X.env) (fun v s₁=>wpAny (model X.prog X.w) X.A (eval b X.env) (fun u s₂=>wpAny (model X.prog X.w) X.A (f v u) Q X.xe s₂) X.xe s₁) X.xe s:=by
 refine gM (ha pins s σ H _ I h) fun v s1 ⟨x,H1,I1,r1,q1⟩=>?_
 refine gM (hb pins s1 σ H1 _ I1 q1) fun u s2 ⟨y,H2,I2,r2,q2⟩=>?_
 exact hf v u s2 x y H2 I2 r1 r2 q2
theorem bM{op:Operator}{r:R2}(ho:MP X (binaryOp op) r)(ha:PE X a ta)(hb:PE X b tb):PE X (.BinOp a op b pos) (RL r ta tb):=by
 intro pins s σ H Q I h;exact wpAny_BinOp (Qs ha hb I h fun v u s2 x y H2 I2 rx ry q=>ho pins s2 σ H2 x y v u Q I2 rx ry q)
theorem ly{op:UnaryOp}{r:V→Hp→VK→Prop}(ho:SG X (unaryOp op) r)(ha:PE X a ta):PE X (.UnaryOp op a pos) (Tv r ta):=by
 intro pins s σ H Q I h;exact UnaryOp_ (gM (ha pins s σ H _ I h) fun v s1 ⟨x,H1,I1,r1,q1⟩=>ho pins s1 σ H1 x v Q I1 r1 q1)
theorem SS{f:Value→Value→Sem Value}{C:Int→Int→Prop}{g:Int→Int→Int}
  (rule:∀(i j:Int)(t u:Tok)(s:Shared)(Q:Value→Shared→Prop)(E:Value→Shared→Prop),C i j→Q (.int (g i j) s.toks) { s with toks:=s.toks+1 }→wpAny (model X.prog X.w) X.A (f (.int i t) (.int j u)) Q E s) :
  MP X f (rI C fun i j=>.int (g i j)):=by
 intro pins s σ H x y v u Q I rx ry h;obtain⟨i,j,rfl,rfl,hc,q⟩:=h;obtain⟨t,rfl⟩:=rx;obtain⟨t',rfl⟩:=ry;exact rule i j t t' s _ _ hc ⟨.int (g i j),H,I.tok _,⟨_,rfl⟩,q⟩
theorem Rt{f:Value→Value→Sem Value}{g:Int→Int→Int}
  (rule:∀(i j:Int)(t u:Tok)(s:Shared)(Q:Value→Shared→Prop)(E:Value→Shared→Prop),Q (.int (g i j) s.toks) { s with toks:=s.toks+1 }→wpAny (model X.prog X.w) X.A (f (.int i t) (.int j u)) Q E s) :
  MP X f (R9 fun i j=>.int (g i j)):=by
 intro pins s σ H x y v u Q I rx ry h;obtain⟨i,j,rfl,rfl,q⟩:=h;obtain⟨t,rfl⟩:=rx;obtain⟨t',rfl⟩:=ry;exact rule i j t t' s _ _ ⟨.int (g i j),H,I.tok _,⟨_,rfl⟩,q⟩
def Qn(i j:Int):Prop:=(-(2^64)<i∧i<2^64)∨(-(2^64)<j∧j<2^64)
theorem Qn.ok{i j:Int}(h:Qn i j):IntMulOk i j:=by
 rcases h with⟨h1,h2⟩|⟨h1,h2⟩
 ·exact .of_left (intBits_le_64 h1 h2)
 ·exact .of_right (intBits_le_64 h1 h2)
theorem cN:MP X (binaryOp .Add) (R9 fun i j=>.int (i+j)):=Rt fun _ _ _ _ _ _ _ q=>add_int q
theorem sg:MP X (binaryOp .Sub) (R9 fun i j=>.int (i-j)):=Rt fun _ _ _ _ _ _ _ q=>sub_int q
theorem NT:MP X (binaryOp .Mult) (rI Qn fun i j=>.int (i*j)):=SS fun _ _ _ _ _ _ _ hc q=>mul_int q hc.ok
theorem Nl:MP X (binaryOp .Mod) (rI (fun _ j=>0<j) fun i j=>.int (i % j)):=SS fun i j _ _ _ _ _ hc q=>by
 have h1:(0:Int)<j:=hc;exact mod_int' (by omega) (by rw[Int.fmod_eq_emod_of_nonneg i (by omega)];exact q)
theorem Tw{f:Value→Sem Value}{g:Int→Int}
  (rule:∀(i:Int)(t:Tok)(s:Shared)(Q:Value→Shared→Prop)(E:Value→Shared→Prop),Q (.int (g i) s.toks) { s with toks:=s.toks+1 }→wpAny (model X.prog X.w) X.A (f (.int i t)) Q E s) :
  SG X f (rU fun i=>.int (g i)):=by
 intro pins s σ H x v Q I rx h;obtain⟨i,rfl,q⟩:=h;obtain⟨t,rfl⟩:=rx;exact rule i t s _ _ ⟨.int (g i),H,I.tok _,⟨_,rfl⟩,q⟩
theorem g5:SG X (unaryOp .USub) (rU fun i=>.int (-i)):=Tw fun _ _ _ _ _ q=>neg_int q
end
section
variable{X:Cx}{a b c:Expr}{ta tb tc:TE}{pos:Pos}
theorem Py{op:CmpOp}{r:R2}(ho:MP X (compareOp op) r)(ha:PE X a ta)(hb:PE X b tb)(hm:behindInMarks op b=false):PE X (.Compare a [op] [b] pos) (RL r ta tb):=by
 intro pins s σ H Q I h;exact wpAny_Compare1 (Qs ha hb I h fun v u s2 x y H2 I2 rx ry q=>ho pins s2 σ H2 x y v u Q I2 rx ry q) hm
noncomputable def RF(t:TE):TT:=fun σ H Q=>t σ H fun x H'=>∃ k,x=.bl k∧Q k H'
theorem Pn{op:CmpOp}{r:R2}(ho:MP X (compareOp op) r)(ha:PE X a ta)(hb:PE X b tb)(hm:behindInMarks op b=false):PT X (.Compare a [op] [b] pos) (RF (RL r ta tb)):=by
 intro pins s σ H Q I h
 refine wpAny_isTrue_Compare1 (gM (ha pins s σ H _ I h) fun v s1 ⟨x,H1,I1,r1,q1⟩=>gM (hb pins s1 σ H1 _ I1 q1) fun u s2 ⟨y,H2,I2,r2,q2⟩=>
  gM (ho pins s2 σ H2 x y v u _ I2 r1 r2 q2) fun c s3 ⟨z,H3,I3,r3,k,e,q3⟩=>?_) hm
 subst e;cases r3;exact wpAny_truthy_bool ⟨H3,I3,q3⟩
theorem Eg:(sizeLine:Nat)<2^63:=by rw[sizeLine_eq];decide
theorem tV:MP X (binaryOp .Add) (fun x y H Q=>∃ i j,x=.str i∧y=.str j∧i.length+j.length≤sizeLine∧Q (.str (i++j)) H):=by
 intro pins s σ H x y v u Q I rx ry h;obtain⟨i,j,rfl,rfl,hz,q⟩:=h;obtain⟨t,rfl⟩:=rx;obtain⟨t',rfl⟩:=ry;exact add_str (fun t' tk=>⟨.str (i++j),H,I.tok _,⟨_,rfl⟩,q⟩) hz
theorem vals1{x:V}{us:List Value}(r:Vals [x] us):∃ u,us=[u]∧RelV x u:=by
 cases r with
 |cons r1 r2=>cases r2;exact⟨_,rfl,r1⟩
theorem zv:zD X (.type "str") (fun xs H Q=>∃ i,xs=[.int i]∧i.natAbs.log2<1920∧Q (.str (toString i)) H):=by
 intro pins s σ H xs us Q I r h;obtain⟨i,rfl,hz,q⟩:=h;obtain⟨u,rfl,t,rfl⟩:=vals1 r;exact PySem.P.str_of_int hz ⟨.str _,H,I.tok _,⟨_,rfl⟩,q⟩
theorem N7:zD X (.builtin "ord") (fun xs H Q=>∃ x,xs=[.str x]∧x.length=1∧Q (.int (x.cps.getD 0 0:Nat)) H):=by
 intro pins s σ H xs us Q I r h;obtain⟨x,rfl,hz,q⟩:=h;obtain⟨u,rfl,t,rfl⟩:=vals1 r;exact ord_of_one hz ⟨.int _,H,I.tok _,⟨_,rfl⟩,q⟩
end
end L2
namespace L2
open PySem PySem.Spec PyProof.Rows
structure K1(h:Heap)(x dx C:Addr)(mA:Str→Option Value):Prop where
 obj:h.get? x=some (PySem.W.instObj C dx)
 ns:h.Ns1 dx mA
 ne:dx≠x
theorem Mq{h:Heap}{dx:Addr}{mA:Str→Option Value}(n:h.Ns1 dx mA):∃ od,h.get? dx=some od∧∀ name,PySem.W.lookIn name od=some (mA name):=by
 obtain⟨o,es,ep,ho,hd,hk,_,hm⟩:=n;refine⟨o,ho,fun name=>?_⟩;have e:=hm name;unfold nsFind findBy at e;rw[←Array.find?_toList]at e;unfold PySem.W.lookIn;rw[hd];dsimp only;split
 ·rename_i y q;rw[q]at e;exact congrArg some e
 ·rename_i q;rw[q]at e;have a:es.toList.any (·.refKey)=false:=by
   rw[List.any_eq_false];intro y hy;obtain⟨z,t,hkey⟩:=hk y (Array.mem_toList_iff.mp hy);simp[DictEntry.refKey,hkey]
  have a':¬es.toList.any (·.refKey)=true:=by rw[a];exact Bool.false_ne_true
  rw[if_neg a'];exact congrArg some e
theorem K1.look{h:Heap}{x dx C:Addr}{mA:Str→Option Value}(I:K1 h x dx C mA):∃ od,PySem.W.InstAt h x (PySem.W.instObj C dx) C (some od)∧∀ name,PySem.W.lookIn name od=some (mA name):=
 let⟨od,ho,hl⟩:=Mq I.ns
 ⟨od,⟨I.obj,rfl,rfl,ho⟩,hl⟩
section
variable{prog:Program}{w:World}{A:Around}{E:Value→Shared→Prop}{s:Shared}{K:PySem.W.Frag}{x dx C f:Addr}{mA:Str→Option Value}{name:Str}{v:Value}
theorem get_map{expr:Bool}{Q:Value→Shared→Prop}(X:K.In s.heap)(I:K1 s.heap x dx C mA)(hg:PySem.W.plainGet K C name=true)(hh:PySem.W.hasDictIn K C=true)
  (ha:PySem.W.findIn K (.ref C) name=some none) (hv:mA name=some v) (hv':PySem.W.handedIn v=true) (h:Q v { s with toks:=s.toks+1 }) :
  wpAny (model prog w) A (getAttr (.ref x) name expr) Q E s:=by
 obtain⟨od,J,hl⟩:=I.look;exact PySem.W.get_value X J (PySem.W.plainGet_of hg).1 (PySem.W.findObj_own hh ha rfl (by rw[hl,hv])) hv' h
theorem Nu{pl:Sem Bool}{Q:Value×List Value→Shared→Prop}(X:K.In s.heap)(I:K1 s.heap x dx C mA)(hg:PySem.W.plainGet K C name=true)
  (hf:PySem.W.findIn K (.ref C) name=some (some (.ref f))) (ht:PySem.W.isFn K (.ref f)=true) (hv:mA name=none) (h:Q (.ref f,[.ref x]) s) :
  wpAny (model prog w) A (getMethod (.ref x) name pl) Q E s:=by
 obtain⟨od,J,hl⟩:=I.look;exact PySem.W.method_fn X J (PySem.W.plainGet_of hg).1 (PySem.W.plainGet_of hg).2 hf (beq_iff_eq.mp ht) (by show(PySem.W.lookIn name od).map (·.isSome)=some false;rw[hl,hv];rfl) h
theorem PL{ns:List Str}{Q:Unit→Shared→Prop}(X:K.In s.heap)(I:K1 s.heap x dx C mA)
  (hs:PySem.W.findIn K (.ref C) "__setattr__"=some (some (.builtin "object.__setattr__"))) (hp:PySem.W.plainOver K C=true) (ht:PySem.W.takerIn K C name=some none) (hh:PySem.W.hasDictIn K C=true)
  (hw:PySem.Within mA ns) (hsz:ns.length≤sizeLine)
  (h:∀ h',K1 h' x dx C (fun y=>if y=name then some v else mA y)→Heap.SameBut dx s.heap h'→Q () { s with heap:=h',toks:=s.toks+2 }) :
  wpAny (model prog w) A (setAttr (.ref x) name v) Q E s:=by
 obtain⟨od,J,hl⟩:=I.look;refine PySem.W.set_plain X J hs (PySem.W.osa_open (s:={ s with toks:=s.toks+1 }) (r:=none) X J hp ht fun b=>?_);obtain⟨cd,hc,hd'⟩:=PySem.W.any_some hh;have hx:s.heap.get? x=some ⟨.ref C,some dx,.plain,#[]⟩:=I.obj;refine wpAny_bind (wpAny_pure (wpAny_bind (wpAny_bind (wpAny_loadPart hx (wpAny_bind (PySem.W.Looks.here (s:={ s with toks:=s.toks+1 }) (PySem.W.looks_clsIn X hc) ?_))))));rw[hd'];refine wpAny_pure (a:=some dx) (wpAny_bind (wpAny_pure (wpAny_bind ?_)));refine wpAny_nsSet1 (s:={ s with toks:=s.toks+1 }) I.ns fun h' hn2 hs2=>?_
 obtain⟨oD,esD,epD,hoD,hdD,hcD⟩:=hn2.count (PySem.Within.cons name v hw);refine wpAny_bind (wpAny_lookBehind hoD (by rw[hdD];exact pastItsLine_dict (Nat.le_trans hcD (by rw[List.length_cons];omega))) ?_);exact wpAny_pure (h _ ⟨(hs2.2 _ (Ne.symm I.ne)).trans I.obj,hn2,I.ne⟩ hs2)
theorem Nq{R:Result→Shared→Prop}{vs:List Value}{kw:List (Str×Value)}(X:K.In s.heap)(hm:PySem.W.makesIn K C=true)
  (hi:PySem.W.findIn K (.ref C) "__init__"=some (some (.ref f))) (hf:PySem.W.typeIn K (.ref f)=some (.type "function"))
  (h:codeAny (model prog w) (A.under (.builtin "type.__call__" ⟨.ref C::vs,kw⟩)) (.call (.ref f) ⟨.ref (s.heap.objs.size+1)::vs,kw⟩) (PySem.W.InitBack (s.heap.objs.size+1) R)
   { s with heap:=(s.heap.push PySem.W.emptyDict).push (PySem.W.instObj C s.heap.objs.size) }) :
  codeAny (model prog w) A (.call (.ref C) ⟨vs,kw⟩) R s:=by
 obtain⟨hh,g,d,t,os⟩:=s;exact PySem.W.make_core (PySem.W.makes_of X hm) (PySem.W.looks_findIn X hi) (fun self=>PySem.W.bind_fn X self hf) (.inl rfl) h
end
noncomputable def aw(f:Str)(v:V):List (Str×V)→List (Str×V)
 |[]=>[(f,v)]
 | (g,x)::r=>if g=f then(g,v)::r else(g,x)::aw f v r
theorem BX(f g:Str)(v:V):∀ fs:List (Str×V),(aw f v fs).lookup g=if g=f then some v else fs.lookup g
 |[]=>by
  show List.lookup g [(f,v)]=_;by_cases h:g=f
  ·have hb:(g==f)=true:=beq_iff_eq.mpr h;simp only[List.lookup,hb,if_pos h]
  ·have hb:(g==f)=false:=beq_eq_false_iff_ne.mpr h;simp only[List.lookup,hb,if_neg h]
 | (k,x)::r=>by
  have ih:=BX f g v r;rw[show aw f v ((k,x)::r)=(if k=f then(k,v)::r else(k,x)::aw f v r) from rfl];by_cases hk:k=f
  ·rw[if_pos hk];by_cases h:g=k
   ·have hb:(g==k)=true:=beq_iff_eq.mpr h;simp only[List.lookup,hb,if_pos (h.trans hk)]
   ·have hb:(g==k)=false:=beq_eq_false_iff_ne.mpr h;simp only[List.lookup,hb,if_neg (fun e:g=f=>h (e.trans hk.symm))]
  ·rw[if_neg hk];by_cases h:g=k
   ·have hb:(g==k)=true:=beq_iff_eq.mpr h;simp only[List.lookup,hb,if_neg (fun e:g=f=>hk (h.symm.trans e))]
   ·have hb:(g==k)=false:=beq_eq_false_iff_ne.mpr h;simp only[List.lookup,hb];exact ih
theorem BF(f:Str)(v:V):∀ fs:List (Str×V),f∈(aw f v fs).map (·.1)∧∀ g,g∈fs.map (·.1)→g∈(aw f v fs).map (·.1)
 |[]=>⟨by simp[aw],fun g h=>by simp at h⟩
 | (k,x)::r=>by
  obtain⟨i1,i2⟩:=BF f v r;rw[show aw f v ((k,x)::r)=(if k=f then(k,v)::r else(k,x)::aw f v r) from rfl];by_cases hk:k=f
  ·rw[if_pos hk];subst hk;exact⟨by simp,fun g h=>by simpa using h⟩
  ·rw[if_neg hk];refine⟨?_,fun g h=>?_⟩
   ·rw[List.map_cons];exact List.mem_cons_of_mem _ i1
   ·rw[List.map_cons]at h ⊢;rcases List.mem_cons.mp h with e|e
    ·exact List.mem_cons.mpr (.inl e)
    ·exact List.mem_cons_of_mem _ (i2 g e)
theorem xb(f:Str)(v:V):∀ fs:List (Str×V),(aw f v fs).length≤fs.length+1
 |[]=>by simp[aw]
 | (k,x)::r=>by
  have ih:=xb f v r;rw[show aw f v ((k,x)::r)=(if k=f then(k,v)::r else(k,x)::aw f v r) from rfl];by_cases hk:k=f
  ·rw[if_pos hk,List.length_cons,List.length_cons];omega
  ·rw[if_neg hk,List.length_cons,List.length_cons];omega
theorem F1.some_of{v:V}{o:Option Value}(r:F1 (some v) o):∃ u,o=some u∧RelV v u:=by
 cases o with
 |none=>exact (show False from r).elim
 |some u=>exact⟨u,rfl,r⟩
theorem F1.none_of{o:Option Value}(r:F1 none o):o=none:=by
 cases o with
 |none=>rfl
 |some u=>exact (show False from r).elim
theorem L9{v:V}{u:Value}(r:RelV v u):PySem.W.handedIn u=true:=by
 cases v with
 |non=>cases(show u=Value.none from r);rfl
 |bl b=>cases(show u=Value.bool b from r);rfl
 |int i=>obtain⟨t,e⟩:=(show ∃ t,u=Value.int i t from r);cases e;rfl
 |str x=>obtain⟨t,e⟩:=(show ∃ t,u=Value.str x t from r);cases e;rfl
 |byt b=>obtain⟨t,e⟩:=(show ∃ t,u=Value.bytes b t from r);cases e;rfl
 |flt b=>obtain⟨t,e⟩:=(show ∃ t,u=Value.float b t from r);cases e;rfl
 |ref a=>cases(show u=Value.ref a from r);rfl
 |ty n=>cases(show u=Value.type n from r);rfl
section
variable{P:Program}{w:World}{H H':Hp}{h h':Heap}{a C dx:Addr}{fs fs':List (Str×V)}
theorem GV(fD:Cc P w H h)(e:H a=some (.ins C dx fs)):∃ mA,K1 h a dx C mA∧(∀ f,F1 (fs.lookup f) (mA f))∧PySem.Within mA (fs.map (·.1))∧fs.length≤1000∧H dx=some (.own a):=by
 obtain⟨d,z,ne,ob,mA,n,r,q⟩:=(show qR P w H h a (.ins C dx fs) from fD a _ e)
 exact⟨mA,⟨ob,n,ne⟩,r,q,z,d⟩
end
structure Ft(K:PySem.W.Frag)(C:Addr):Prop where
 pg:PySem.W.plainGet K C Str.empty=true
 hd:PySem.W.hasDictIn K C=true
 po:PySem.W.plainOver K C=true
 sa:PySem.W.findIn K (.ref C) "__setattr__"=some (some (.builtin "object.__setattr__"))
theorem Ft.get{K:PySem.W.Frag}{C:Addr}(c:Ft K C)(f:Str):PySem.W.plainGet K C f=true:=c.pg
def aB(K:PySem.W.Frag)(C:Addr)(f:Str):Prop:=PySem.W.findIn K (.ref C) f=some none
theorem aB.Rp{K:PySem.W.Frag}{C:Addr}{f:Str}(n:aB K C f):PySem.W.takerIn K C f=some none:=by
 unfold PySem.W.takerIn;rw[show PySem.W.findIn K (.ref C) f=some none from n];rfl
structure Meth(K:PySem.W.Frag)(C:Addr)(m:Str)(f:Addr):Prop where
 at_:PySem.W.findIn K (.ref C) m=some (some (.ref f))
 fn:PySem.W.isFn K (.ref f)=true
 kp:PySem.W.keepIn K (.ref f)=true
section
variable{X:Cx}{pins:List (Addr×Obj)}{σ:St}{H:Hp}{s:Shared}{a C dx:Addr}{fs:List (Str×V)}{f:Str}{v:V}{A:Around}{E:Value→Shared→Prop}
theorem K2{b:Bool}{Q:Value→Shared→Prop}(I:Inv X pins σ H s)(e:H a=some (.ins C dx fs))(c:Ft X.K C)(n:aB X.K C f)(l:fs.lookup f=some v)
  (h:∀ u s',Inv X pins σ H s'→RelV v u→Q u s'):wpAny (model X.prog X.w) A (getAttr (.ref a) f b) Q E s:=by
 obtain⟨mA,O,r,_,_,_⟩:=GV I.fD e;obtain⟨u,hu,ru⟩:=F1.some_of (v:=v) (o:=mA f) (by rw[←l];exact r f);exact get_map I.IH O (c.get f) c.hd n hu (L9 ru) (h u _ (I.tok _) ru)
theorem y0{m:Str}{g:Addr}{pl:Sem Bool}{Q:Value×List Value→Shared→Prop}(I:Inv X pins σ H s)(e:H a=some (.ins C dx fs))(c:Ft X.K C)(k:Meth X.K C m g)(l:fs.lookup m=none)
  (h:Q (.ref g,[.ref a]) s):wpAny (model X.prog X.w) A (getMethod (.ref a) m pl) Q E s:=by
 obtain⟨mA,O,r,_,_,_⟩:=GV I.fD e;have hn:mA m=none:=F1.none_of (by rw[←l];exact r m);exact Nu I.IH O (c.get m) k.at_ k.fn hn h
theorem JT{y:V}{u:Value}{Q:Unit→Shared→Prop}(I:Inv X pins σ H s)(e:H a=some (.ins C dx fs))(c:Ft X.K C)(n:aB X.K C f)(hl:fs.length<1000)(ry:RelV y u)
  (h:∀ s',Inv X pins σ (upd H a (.ins C dx (aw f y fs))) s'→Q () s'):wpAny (model X.prog X.w) A (setAttr (.ref a) f u) Q E s:=by
 obtain⟨mA,O,r,wi,_,ho⟩:=GV I.fD e;have hz:(fs.map (·.1)).length≤sizeLine:=by rw[List.length_map,sizeLine_eq];omega
 refine PL I.IH O c.sa c.po n.Rp c.hd wi hz fun h' O' sb=>h _ ?_
 have hd:∃ o,h'.get? dx=some o:=let⟨o,_,_,e',_⟩:=O'.ns;⟨o,e'⟩
 refine I.write (x:=a) (e:=dx) (by rw[e];exact True.intro) (.inr ho) (fun b q hb z=>(sb.2 b hb).trans z) hd ?_;refine⟨by rw[ax O.ne];exact ho,?_,O.ne,O'.obj,_,O'.ns,fun g=>?_,fun g hg=>?_⟩
 ·have:=xb f y fs;omega
 ·show F1 ((aw f y fs).lookup g) (if g=f then some u else mA g);rw[BX];by_cases q:g=f
  ·rw[if_pos q,if_pos q];exact ry
  ·rw[if_neg q,if_neg q];exact r g
 ·by_cases q:g=f
  ·rw[q];exact (BF f y fs).1
  ·refine (BF f y fs).2 g (wi g fun z=>hg ?_);show(if g=f then some u else mA g)=none;rw[if_neg q];exact z
theorem Inv.made(I:Inv X pins σ H s):Inv X pins σ (upd (upd H s.heap.objs.size (.own (s.heap.objs.size+1))) (s.heap.objs.size+1) (.ins C s.heap.objs.size []))
  { s with heap:=(s.heap.push PySem.W.emptyDict).push (PySem.W.instObj C s.heap.objs.size) }:=by
 have e1:(s.heap.push PySem.W.emptyDict).get? s.heap.objs.size=some PySem.W.emptyDict:=Heap.get?_push_size s.heap rfl;have e2:((s.heap.push PySem.W.emptyDict).push (PySem.W.instObj C s.heap.objs.size)).get? (s.heap.objs.size+1)=some (PySem.W.instObj C s.heap.objs.size):=by
  have:=Heap.get?_push_size (s.heap.push PySem.W.emptyDict) (o:=PySem.W.instObj C s.heap.objs.size) rfl
  rwa [Heap.size_push]at this
 have e3:(s.heap.push PySem.W.emptyDict).Ns s.heap.objs.size (fun _=>none):=⟨PySem.W.emptyDict,#[],_,e1,rfl,(fun e he=>absurd he (by simp)),fun _=>rfl⟩
 have I1:=I.laid (a:=s.heap.objs.size) (o:=.own (s.heap.objs.size+1)) (h':=s.heap.push PySem.W.emptyDict) (t':=s.toks) (fun b u q=>Heap.get?_push_of_some _ q) (Nat.le_refl _) ⟨_,e1⟩;refine I1.laid (a:=s.heap.objs.size+1) (o:=.ins C s.heap.objs.size []) (t':=s.toks) (fun b u q=>Heap.get?_push_of_some _ q) (Nat.le_of_eq (Heap.size_push _ _)) ?_;have ne:s.heap.objs.size≠s.heap.objs.size+1:=Nat.ne_of_lt (Nat.lt_succ_self _);refine⟨by rw[ax ne,aa],Nat.zero_le _,ne,e2,fun _=>none,(Heap.Ns1.of_empty e3).at fun o q=>Heap.get?_push_of_some _ q,fun _=>True.intro,fun y hy=>absurd rfl hy⟩
theorem OP{prog:Program}{w:World}{env:Env}{e:Expr}{f:Str}{pos:Pos}{s:Shared}{Q:Value→Shared→Prop}(hb:attributeBase e f env (eval e env)=eval e env)
  (h:wpAny (model prog w) A (eval e env) (fun o s₁=>wpAny (model prog w) A (getAttr o f true) Q E s₁) E s):wpAny (model prog w) A (eval (.Attribute e f pos) env) Q E s:=
 Attribute_any_ h (by rw[arm_eval_Attribute,hb])
end
inductive RX(K:PySem.W.Frag)(f:Str)(x:V)(H:Hp)(Q:VK):Prop
 |mk(a C dx:Addr)(fs:List (Str×V))(v:V)(_:x=.ref a)(_:H a=some (.ins C dx fs))(_:Ft K C)(_:aB K C f)(_:fs.lookup f=some v)(_:Q v H)
def IT(K:PySem.W.Frag)(ta:TE)(f:Str):TE:=fun σ H Q=>ta σ H fun x H1=>RX K f x H1 Q
inductive Sh(K:PySem.W.Frag)(f:Str)(x y:V)(H:Hp)(σ:St)(N:St→Hp→Prop):Prop
 |mk(a C dx:Addr)(fs:List (Str×V))(_:x=.ref a)(_:H a=some (.ins C dx fs))(_:Ft K C)(_:aB K C f)(_:fs.length<1000)(_:N σ (upd H a (.ins C dx (aw f y fs))))
def SO(K:PySem.W.Frag)(ta tv:TE)(f:Str):TS:=fun D σ H=>tv σ H fun y H1=>ta σ H1 fun x H2=>Sh K f x y H2 σ D.nx
section
variable{X:Cx}{o e value:Expr}{f:Str}{pos pos' tM:Pos}{ta tv:TE}
theorem af(he:PE X e ta)(hb:attributeBase e f X.env (eval e X.env)=eval e X.env):PE X (.Attribute e f pos) (IT X.K ta f):=by
 intro pins s σ H Q I h;refine OP hb (gM (he pins s σ H _ I h) fun u s1 ⟨x,H1,I1,rx,a,C,dx,fs,v,ex,ea,c,n,l,q⟩=>?_);subst ex;obtain rfl:u=Value.ref a:=rx;exact K2 I1 ea c n l fun u' s2 I2 ru=>⟨v,H1,I2,ru,q⟩
theorem aW(ha:PE X o ta)(hv:PE X value tv)(hs:swapsWith value (some (.Attribute o f pos')) pos.line X.env=pure false):PS X (.Assign [.Attribute o f pos'] value pos) (SO X.K ta tv f):=by
 intro pins s σ H D I h;refine plainObj_wpAny_Assign_Attribute (gM (hv pins s σ H _ I h) fun u s1 ⟨y,H1,I1,ry,q⟩=>gM (ha pins s1 σ H1 _ I1 q) fun ov s2 ⟨x,H2,I2,rx,a,C,dx,fs,ex,ea,c,n,l,q2⟩=>?_) hs;subst ex;obtain rfl:ov=Value.ref a:=rx;exact JT I2 ea c n l ry fun s3 I3=>⟨σ,_,I3,q2⟩
theorem PX{pl:Sem Bool}{m:Str}{apos:Pos}{args:List Expr}{pins:List (Addr×Obj)}{s:Shared}{σ:St}{H:Hp}{Q:Value→Shared→Prop}{te:TE}(he:PE X e te)(I:Inv X pins σ H s)
  (h:te σ H fun x H1=>∃ a C dx fs g,x=.ref a∧H1 a=some (.ins C dx fs)∧Ft X.K C∧Meth X.K C m g∧fs.lookup m=none∧
   ∀ s1,Inv X pins σ H1 s1→wpAny (model X.prog X.w) X.A (callWith pos (.ref g) [.ref a] (backTo pos (starEach args X.env)) (backToKw pos (keywordEach [] X.env))) Q X.xe s1)
  (ht:eval (.Call (.Attribute e m apos) args [] pos) X.env=(do
   let ov ←eval e X.env
   standAt apos.atName
   let(f,first) ←holding [ov] (getMethod ov m pl)
   callWith pos f first (backTo pos (starEach args X.env)) (backToKw pos (keywordEach [] X.env)))) :
  wpAny (model X.prog X.w) X.A (eval (.Call (.Attribute e m apos) args [] pos) X.env) Q X.xe s:=by
 refine PySem.W.methodCall_KW (pl:=pl) (gM (he pins s σ H _ I h) fun u s1 ⟨x,H1,I1,rx,a,C,dx,fs,g,ex,ea,c,k,l,q⟩=>?_) ht;subst ex;obtain rfl:u=Value.ref a:=rx;exact y0 I1 ea c k l (q s1 I1)
end
section
variable{X:Cx}{pins:List (Addr×Obj)}{σ:St}{H:Hp}{s:Shared}{A:Around}{E:Value→Shared→Prop}{Q:Value→Shared→Prop}{c:Value}{b:Bool}
end
end L2
namespace L2
open PySem PySem.Spec PyProof.Rows
structure mE(k:Nat)(A:Around):Prop where
 hd:A.handled=none
 dp:A.depth+3*k+5<recursionLimit
 un:A.units+16*k+200<cLine
theorem mE.mono{j k:Nat}{A:Around}(r:mE k A)(h:j≤k):mE j A:=⟨r.hd,by have:=r.dp;omega,by have:=r.un;omega⟩
theorem mE.deeper{k:Nat}{A:Around}(r:mE (k+1) A)(env:Env):mE k (A.deeper env):=
 ⟨r.hd,by have:=r.dp;show A.depth+1+3*k+5<_;omega,by have:=r.un;show A.units+3+16*k+200<_;omega⟩
theorem KO{A:Around}{C:Addr}{us:List Value}{kw:List (Str×Value)}:(A.under (.builtin "type.__call__" ⟨.ref C::us,kw⟩)).depth=A.depth+1:=by
 first|rfl|simp[Around.under,Code.weight,Code.isCreation,Code.isGuard,Code.isCaller,Code.frames,Code.isFrame,guardIds]
theorem JV{A:Around}{C:Addr}{us:List Value}{kw:List (Str×Value)}:(A.under (.builtin "type.__call__" ⟨.ref C::us,kw⟩)).units=A.units+1:=by
 first|rfl|simp[Around.under,Code.cUnits,Code.frames,Code.isFrame]
theorem mE.make{k:Nat}{A:Around}(r:mE (k+1) A)(C:Addr)(us:List Value)(kw:List (Str×Value)):mE k (A.under (.builtin "type.__call__" ⟨.ref C::us,kw⟩)):=
 ⟨r.hd,by have:=r.dp;rw[KO];omega,by have:=r.un;rw[JV];omega⟩
theorem mE.depth{k:Nat}{A:Around}(r:mE k A):A.depth<recursionLimit:=by have:=r.dp;omega
def O8:TA:=fun _ H Q=>Q [] H
def PM(ta:TE)(tr:TA):TA:=fun σ H Q=>ta σ H fun x H1=>tr σ H1 fun xs H2=>Q (x::xs) H2
section
variable{X:Cx}{e:Expr}{es:List Expr}{te:TE}{t:TA}{pos:Pos}
theorem ah:PA X [] O8:=fun _ _ _ _ H Q I h=>Calls.spliced_nil ⟨[],H,I,.nil,h⟩
theorem Pz(ha:PE X e te)(hr:PA X es t)(hs:starEach (e::es) X.env=(false,eval e X.env)::starEach es X.env:=by rfl):PA X (e::es) (PM te t):=by
 intro pos pins s σ H Q I h;rw[hs];show wpAny _ _ (spliced ((false,eval e X.env)::backTo pos (starEach es X.env))) _ _ s;refine Calls.spliced_cons (gM (ha pins s σ H _ I h) fun u s1 ⟨x,H1,I1,r1,q1⟩=>?_);exact gM (hr pos pins s1 σ H1 _ I1 q1) fun us s2 ⟨xs,H2,I2,r2,q2⟩=>⟨x::xs,H2,I2,.cons r1 r2,q2⟩
def Sy(t:TA):TE:=fun σ H Q=>t σ H fun xs H1=>xs.length≤sizeLine∧∀ p,H1 p=none→Q (.ref p) (upd H1 p (.tup xs))
def SD(t:TA):TE:=fun σ H Q=>t σ H fun xs H1=>xs.length≤sizeLine∧∀ p,H1 p=none→Q (.ref p) (upd H1 p (.lst xs))
theorem AV{x1}(h:PA X es t):PE X (.Tuple es x1 pos) (Sy t):=by
 intro pins s σ H Q I hq;refine wpAny_Tuple_spliced (gM (h pos pins s σ H _ I hq) fun us s1 ⟨xs,H1,I1,r,z,q⟩=>⟨by rw[←r.length];exact z,?_⟩);have hf:H1 s1.heap.objs.size=none:=I1.fD.fresh (Nat.le_refl _);refine⟨.ref s1.heap.objs.size,upd H1 s1.heap.objs.size (.tup xs),I1.laid (t':=s1.toks) (fun b u e=>Heap.get?_push_of_some _ e) (Nat.le_refl _) ?_,rfl,q _ hf⟩;exact⟨z,us,r,⟨_,Heap.get?_push_size _ rfl,rfl,_,rfl⟩⟩
theorem bO(h:PA X es t):PE X (.List es pos) (SD t):=by
 intro pins s σ H Q I hq;refine wpAny_List_spliced (gM (h pos pins s σ H _ I hq) fun us s1 ⟨xs,H1,I1,r,z,q⟩=>⟨by rw[←r.length];exact z,?_⟩);have hf:H1 s1.heap.objs.size=none:=I1.fD.fresh (Nat.le_refl _);refine⟨.ref s1.heap.objs.size,upd H1 s1.heap.objs.size (.lst xs),I1.laid (t':=s1.toks) (fun b u e=>Heap.get?_push_of_some _ e) (Nat.le_refl _) ?_,rfl,q _ hf⟩;exact⟨z,us,0,r,Heap.get?_push_size _ rfl⟩
end
noncomputable abbrev Sp:=List V→Hp→VK→XK→Prop
noncomputable abbrev NQ:=List Env→Hp→Shared→XK→Value→Shared→Prop
structure Kg(P:Program)(w:World)(K:PySem.W.Frag)(mg:Str→Option Value)(base:Heap)(A:Around)(outer:List Env)(s:Shared)(H:Hp):Prop where
 frames:A.frames=some outer
 mod:Mod K mg base
 bs:∀ b o,base.get? b=some o→s.heap.get? b=some o∧H b=none
 Oz:base.objs.size≤s.heap.objs.size
 De:s.heap.FunFrames base outer
 Qw:∀ b∈M7 outer,H b=none
 fD:Cc P w H s.heap
 bare:AllBare s.gens
def CE(outer:List Env)(P:Program)(w:World)(H:Hp)(s:Shared)(Q:VK)(u:Value)(s':Shared):Prop:=
 ∃ v H',s'.os=s.os∧AllBare s'.gens∧Un (M7 outer) [] H H' s.heap s'.heap∧Cc P w H' s'.heap∧RelV v u∧Q v H'
def CR(CX:NQ)(outer:List Env)(P:Program)(w:World)(H:Hp)(s:Shared)(Q:VK)(E:XK)(r:Result)(s':Shared):Prop:=
 match r with
 |.ok (.ret u)=>CE outer P w H s Q u s'
 |.ok _=>False
 |.error e=>CX outer H s E e s'
structure aZ(P:Program)(w:World)(K:PySem.W.Frag)(mg:Str→Option Value)(base:Heap)(CX:NQ)(k:Nat)(f:Addr)(fd:FuncData)(ps:List Str)(sp:Sp):Prop where
 len:∀ vs H Q E,sp vs H Q E→vs.length=ps.length
 run:∀(A:Around)(outer:List Env)(s:Shared)(H:Hp)(args:Args)(us:List Value)(vs:List V)(Q:VK)(E:XK),mE k A→Kg P w K mg base A outer s H→BindsTo s fd args (ps.zip us)→Vals vs us→sp vs H Q E→
  codeAny (model P w) A (.call (.ref f) args) (CR CX outer P w H s Q E) s
theorem Kg.make{P:Program}{w:World}{K:PySem.W.Frag}{mg:Str→Option Value}{base:Heap}{A:Around}{outer:List Env}{s:Shared}{H:Hp}(e:Kg P w K mg base A outer s H)(C:Addr)(us:List Value)(kw:List (Str×Value)) :
  Kg P w K mg base (A.under (.builtin "type.__call__" ⟨.ref C::us,kw⟩)) outer s H:=⟨by first|exact e.frames|(simpa [Around.under,Code.envs,Code.isFrame,pushEnvs]using e.frames),e.mod,e.bs,e.Oz,e.De,e.Qw,e.fD,e.bare⟩
section
variable{X:Cx}{pins:List (Addr×Obj)}{σ:St}{H:Hp}{s s':Shared}
theorem Inv.Rl(I:Inv X pins σ H s):Kg X.prog X.w X.K X.mg X.base X.A X.stack s H:=
 ⟨I.ok.frames,I.ok.mod,I.bs,Nat.le_trans I.ok.Oz I.sz,I.stack,I.LR,I.fD,I.bare⟩
theorem Inv.after{Q:VK}{u:Value}(I:Inv X pins σ H s)(h:CE X.stack X.prog X.w H s Q u s'):EP X pins σ Q u s':=by
 obtain⟨v,H',os,bare,un,fD,r,q⟩:=h;obtain⟨hh,g,d,t,os'⟩:=s';obtain rfl:os'=s.os:=os;exact⟨v,H',I.call (h':=hh) (g':=g) (d':=d) (t':=t) (ch:=[]) un fD bare (fun b z=>absurd z (by simp)),r,q⟩
end
def Nj(sp:Sp)(dvs:List V)(E:XK)(t:TA):TE:=fun σ H Q=>t σ H fun vs H1=>sp (vs++dvs) H1 Q E
inductive Rc(C:Addr)(m:Str)(sp:Sp)(dvs:List V)(E:XK)(t:TA)(x:V)(σ:St)(H:Hp)(Q:VK):Prop
 |mk(a dx:Addr)(fs:List (Str×V))(_:x=.ref a)(_:H a=some (.ins C dx fs))(_:fs.lookup m=none)(_:t σ H fun vs H2=>sp (x::(vs++dvs)) H2 Q E)
def M6(C:Addr)(m:Str)(sp:Sp)(dvs:List V)(E:XK)(ta:TE)(t:TA):TE:=fun σ H Q=>ta σ H fun x H1=>Rc C m sp dvs E t x σ H1 Q
def Ni(C:Addr)(sp:Sp)(dvs:List V)(E:XK)(t:TA):TE:=fun σ H Q=>t σ H fun vs H1=>∀ x dx,H1 x=none→H1 dx=none→dx≠x→
 sp (.ref x::(vs++dvs)) (upd (upd H1 dx (.own x)) x (.ins C dx [])) (fun v H2=>v=.non∧Q (.ref x) H2) E
def Binds(K:PySem.W.Frag)(fd:FuncData)(ps:List Str)(ds:List Value):Prop:=
 ∀(s:Shared)(us:List Value),K.In s.heap→(us++ds).length=ps.length→BindsTo s fd ⟨us,[]⟩ (ps.zip (us++ds))
theorem Binds.all{K:PySem.W.Frag}{fd:FuncData}{ps:List Str}(h:∀ us:List Value,us.length=ps.length→bindArgs fd ⟨us,[]⟩=pure (ps.zip us)):Binds K fd ps []:=fun s us _ hl=>by
 rw[List.append_nil]at hl ⊢;exact .of_eq (h us hl)
def Passes(CX:NQ)(X:Cx)(E:XK):Prop:=∀(pins:List (Addr×Obj))(σ:St)(H:Hp)(s:Shared)(e:Value)(s':Shared),Inv X pins σ H s→CX X.stack H s E e s'→X.xe e s'
section
variable{X:Cx}{CX:NQ}{k:Nat}{f C:Addr}{fd:FuncData}{ps:List Str}{sp:Sp}{dvs:List V}{ds:List Value}{E:XK}{x m:Str}{p pos apos:Pos}{e o:Expr}{es:List Expr}{ta:TE}{t:TA}
theorem DM{pins:List (Addr×Obj)}{σ:St}{H:Hp}{s:Shared}{Q:VK}{us:List Value}{vs:List V}(F:aZ X.prog X.w X.K X.mg X.base CX k f fd ps sp)(hr:mE k X.A)(hb:Binds X.K fd ps ds)(hd:Vals dvs ds)(hx:Passes CX X E)
  (I:Inv X pins σ H s) (r:Vals vs us) (h:sp (vs++dvs) H Q E):wpAny (model X.prog X.w) X.A (call (.ref f) us) (EP X pins σ Q) X.xe s:=by
 have r2:Vals (vs++dvs) (us++ds):=r.append hd;have hl:(us++ds).length=ps.length:=by rw[←r2.length];exact F.len _ _ _ _ h
 refine wpAny_call (codeAny_mono (F.run X.A X.stack s H ⟨us,[]⟩ (us++ds) (vs++dvs) Q E hr I.Rl (hb s us I.IH hl) r2 h) fun r s' hq=>?_)
 cases r with
 |error e=>exact hx pins σ H s e s' I hq
 |ok fl=>
  cases fl with
  |ret u=>exact I.after hq
  |next=>exact False.elim hq
  |brk=>exact False.elim hq
  |cont=>exact False.elim hq
theorem PK(F:aZ X.prog X.w X.K X.mg X.base CX k f fd ps sp)(hr:mE k X.A)(hg:Gl X x)(hm:X.mg x=some (.ref f))(hk:PySem.W.keepIn X.K (.ref f)=true)(hb:Binds X.K fd ps ds)(hd:Vals dvs ds)(hx:Passes CX X E)
  (ha:PA X (e::es) t) (hdb:(x==("__debug__":Str))=false:=by decide) (he:starEach (e::es) X.env=(false,eval e X.env)::starEach es X.env:=by rfl) (hpl:(backTo pos (starEach es X.env)).any (·.1)=false:=by rfl) :
  PE X (.Call (.Name x p) (e::es) [] pos) (Nj sp dvs E t):=by
 intro pins s σ H Q I h;refine wpAny_Call_Name_kw (Aa I hg hm ?_ hdb);refine PySem.W.callWith_K (h₀:=X.base) I.ok.mod.QQ hk (gM (ha pos pins s σ H _ I h) fun us s1 ⟨vs,H1,I1,r,q⟩=>⟨I1.IH,?_⟩) he hpl;exact DM F hr hb hd hx I1 r q
theorem IU(F:aZ X.prog X.w X.K X.mg X.base CX k f fd ps sp)(hr:mE k X.A)(hg:Gl X x)(hm:X.mg x=some (.ref f))(hk:PySem.W.keepIn X.K (.ref f)=true)(hb:Binds X.K fd ps ds)(hd:Vals dvs ds)(hx:Passes CX X E)
  (hdb:(x==("__debug__":Str))=false:=by decide):PE X (.Call (.Name x p) [] [] pos) (Nj sp dvs E O8):=by
 intro pins s σ H Q I h;refine wpAny_Call_Name_kw (Aa I hg hm ?_ hdb);exact PySem.W.callWith_K0 I.IH hk (DM (us:=[]) F hr hb hd hx I .nil h)
theorem OC{pl:Sem Bool}(he:PE X o ta)(c:Ft X.K C)(hm:Meth X.K C m f)(F:aZ X.prog X.w X.K X.mg X.base CX k f fd ps sp)(hr:mE k X.A)(hb:Binds X.K fd ps ds)(hd:Vals dvs ds)(hx:Passes CX X E)(ha:PA X (e::es) t)
  (hst:starEach (e::es) X.env=(false,eval e X.env)::starEach es X.env:=by rfl) (hpl:(backTo pos (starEach es X.env)).any (·.1)=false:=by rfl)
  (ht:eval (.Call (.Attribute o m apos) (e::es) [] pos) X.env=(do
   let ov ←eval o X.env
   standAt apos.atName
   let(f,first) ←holding [ov] (getMethod ov m pl)
   callWith pos f first (backTo pos (starEach (e::es) X.env)) (backToKw pos (keywordEach [] X.env))):=by rfl) :
  PE X (.Call (.Attribute o m apos) (e::es) [] pos) (M6 C m sp dvs E ta t):=by
 intro pins s σ H Q I h;refine PySem.W.methodCall_KW (pl:=pl) (gM (he pins s σ H _ I h) fun u s1 ⟨x,H1,I1,rx,a,dx,fs,ex,ea,l,q⟩=>?_) ht;subst ex;obtain rfl:u=Value.ref a:=rx;refine y0 I1 ea c hm l ?_;refine PySem.W.callWith_K (first:=[.ref a]) (h₀:=X.base) I.ok.mod.QQ hm.kp (gM (ha pos pins s1 σ H1 _ I1 q) fun us s2 ⟨vs,H2,I2,r,q2⟩=>⟨I2.IH,?_⟩) hst hpl;exact DM (us:=.ref a::us) (vs:=.ref a::vs) F hr hb hd hx I2 (.cons rfl r) q2
theorem az{pl:Sem Bool}(he:PE X o ta)(c:Ft X.K C)(hm:Meth X.K C m f)(F:aZ X.prog X.w X.K X.mg X.base CX k f fd ps sp)(hr:mE k X.A)(hb:Binds X.K fd ps ds)(hd:Vals dvs ds)(hx:Passes CX X E)
  (ht:eval (.Call (.Attribute o m apos) [] [] pos) X.env=(do
   let ov ←eval o X.env
   standAt apos.atName
   let(f,first) ←holding [ov] (getMethod ov m pl)
   callWith pos f first (backTo pos (starEach [] X.env)) (backToKw pos (keywordEach [] X.env))):=by rfl) :
  PE X (.Call (.Attribute o m apos) [] [] pos) (M6 C m sp dvs E ta O8):=by
 intro pins s σ H Q I h;refine PySem.W.methodCall_KW (pl:=pl) (gM (he pins s σ H _ I h) fun u s1 ⟨x,H1,I1,rx,a,dx,fs,ex,ea,l,q⟩=>?_) ht;subst ex;obtain rfl:u=Value.ref a:=rx;refine y0 I1 ea c hm l ?_;exact PySem.W.callWith_K0 (first:=[.ref a]) I1.IH hm.kp (DM (us:=[.ref a]) (vs:=[.ref a]) F hr hb hd hx I1 (.cons rfl .nil) q)
structure Mk(K:PySem.W.Frag)(C f:Addr):Prop where
 makes:PySem.W.makesIn K C=true
 init:PySem.W.findIn K (.ref C) "__init__"=some (some (.ref f))
 fn:PySem.W.isFn K (.ref f)=true
 kp:PySem.W.keepIn K (.ref C)=true
theorem JA{pins:List (Addr×Obj)}{σ:St}{H:Hp}{s:Shared}{Q:VK}{us:List Value}{vs:List V}(M:Mk X.K C f)(F:aZ X.prog X.w X.K X.mg X.base CX k f fd ps sp)(hr:mE (k+1) X.A)(hb:Binds X.K fd ps ds)(hd:Vals dvs ds)
  (hx:Passes CX X E) (I:Inv X pins σ H s) (r:Vals vs us)
  (h:∀ x dx,H x=none→H dx=none→dx≠x→sp (.ref x::(vs++dvs)) (upd (upd H dx (.own x)) x (.ins C dx [])) (fun v H2=>v=.non∧Q (.ref x) H2) E) :
  wpAny (model X.prog X.w) X.A (call (.ref C) us) (EP X pins σ Q) X.xe s:=by
 have hq:=h (s.heap.objs.size+1) s.heap.objs.size (I.fD.fresh (Nat.le_succ _)) (I.fD.fresh (Nat.le_refl _)) (Nat.ne_of_lt (Nat.lt_succ_self _));have I2:=Inv.made (C:=C) I;have r2:Vals (V.ref (s.heap.objs.size+1)::(vs++dvs)) (Value.ref (s.heap.objs.size+1)::(us++ds)):=.cons rfl (r.append hd);have hl:(Value.ref (s.heap.objs.size+1)::us++ds).length=ps.length:=by
  have e:=r2.length;rw[F.len _ _ _ _ hq]at e;exact e.symm
 refine wpAny_call (Nq (f:=f) I.IH M.makes M.init (beq_iff_eq.mp M.fn) (codeAny_mono (F.run _ X.stack _ _ ⟨Value.ref (s.heap.objs.size+1)::us,[]⟩ (Value.ref (s.heap.objs.size+1)::(us++ds)) _ _ E (hr.make C us [])
  (I2.Rl.make C us []) (hb _ (Value.ref (s.heap.objs.size+1)::us) I2.IH hl) r2 hq) fun r s' hq'=>?_))
 cases r with
 |error e=>exact hx pins σ _ _ e s' I2 hq'
 |ok fl=>
  cases fl with
  |ret u=>
   obtain⟨v,H',I3,rv,ev,q3⟩:=I2.after hq';subst ev;exact⟨rv,⟨V.ref (s.heap.objs.size+1),H',I3,rfl,q3⟩⟩
  |next=>exact False.elim hq'
  |brk=>exact False.elim hq'
  |cont=>exact False.elim hq'
theorem PH(M:Mk X.K C f)(F:aZ X.prog X.w X.K X.mg X.base CX k f fd ps sp)(hr:mE (k+1) X.A)(hg:Gl X x)(hm:X.mg x=some (.ref C))(hb:Binds X.K fd ps ds)(hd:Vals dvs ds)(hx:Passes CX X E)
  (ha:PA X (e::es) t) (hdb:(x==("__debug__":Str))=false:=by decide) (he:starEach (e::es) X.env=(false,eval e X.env)::starEach es X.env:=by rfl) (hpl:(backTo pos (starEach es X.env)).any (·.1)=false:=by rfl) :
  PE X (.Call (.Name x p) (e::es) [] pos) (Ni C sp dvs E t):=by
 intro pins s σ H Q I h;refine wpAny_Call_Name_kw (Aa I hg hm ?_ hdb);refine PySem.W.callWith_K (h₀:=X.base) I.ok.mod.QQ M.kp (gM (ha pos pins s σ H _ I h) fun us s1 ⟨vs,H1,I1,r,q⟩=>⟨I1.IH,?_⟩) he hpl;exact JA M F hr hb hd hx I1 r q
theorem Nn(M:Mk X.K C f)(F:aZ X.prog X.w X.K X.mg X.base CX k f fd ps sp)(hr:mE (k+1) X.A)(hg:Gl X x)(hm:X.mg x=some (.ref C))(hb:Binds X.K fd ps ds)(hd:Vals dvs ds)(hx:Passes CX X E)
  (hdb:(x==("__debug__":Str))=false:=by decide):PE X (.Call (.Name x p) [] [] pos) (Ni C sp dvs E O8):=by
 intro pins s σ H Q I h;refine wpAny_Call_Name_kw (Aa I hg hm ?_ hdb);exact PySem.W.callWith_K0 I.IH M.kp (JA (us:=[]) M F hr hb hd hx I .nil h)
end
section
variable{X:Cx}{CX:NQ}{k:Nat}{f C:Addr}{fd:FuncData}{ps ks:List Str}{sp:Sp}{E:XK}{x m:Str}{p pos apos kpos:Pos}{e o:Expr}{es:List Expr}{kws:List Keyword}{te ta:TE}{t tk:TA}{nm:Option Str}
variable{g:List Value→List Value→List Value}{gV:List V→List V→List V}
end
structure ao(N P:List Str)(sc:Scope):Prop where
 kind:sc.kind=.function
 co:sc.isCoroutine=false
 gen:sc.isGenerator=false
 nd:N.Nodup
 pre:N.take P.length=P
 par:∀ x∈P,sc.names.lookup x=some .local∨sc.names.lookup x=some .cell
 QF:∀ y∈sc.names,y.2≠.free
theorem Gp{kindOf:Str→Option NameKind}{x:Str}:∀{binds:List (Str×Value)}{m:Str→Option Value},(∀ v,(x,v) ∉ binds)→bindL kindOf binds m x=m x
 |[],_,_=>rfl
 | (n,v)::r,m,h=>by
  unfold bindL;rw[Gp fun w hw=>h w (List.mem_cons_of_mem _ hw)];split
  ·have:x≠n:=by rintro rfl;exact h v List.mem_cons_self
   simp[this]
  ·rfl
theorem GA{kindOf:Str→Option NameKind}{x:Str}:∀{binds:List (Str×Value)}{m:Str→Option Value},(∀ v,(x,v) ∉ binds)→bindC kindOf binds m x=m x
 |[],_,_=>rfl
 | (n,v)::r,m,h=>by
  unfold bindC;rw[GA fun w hw=>h w (List.mem_cons_of_mem _ hw)];split
  ·rfl
  ·have:x≠n:=by rintro rfl;exact h v List.mem_cons_self
   simp[this]
theorem Gx{kindOf:Str→Option NameKind}{x:Str}{v:Value}:∀{P:List Str}{vs:List Value}{i:Nat}{m:Str→Option Value},P.Nodup→P[i]?=some x→vs[i]?=some v→kindOf x=some .local→
  bindL kindOf (P.zip vs) m x=some v
 |[],_,_,_,_,h,_,_=>by simp at h
 |_::_,[],_,_,_,_,h,_=>by simp at h
 |p::P,w::vs,0,m,nd,h1,h2,hk=>by
  simp at h1 h2;subst h1;subst h2;show bindL kindOf ((p,w)::P.zip vs) m p=_;unfold bindL;rw[Gp fun v hv=>(List.nodup_cons.mp nd).1 (List.of_mem_zip hv).1,if_pos hk];simp
 |p::P,w::vs,i+1,m,nd,h1,h2,hk=>by
  show bindL kindOf ((p,w)::P.zip vs) m x=_;unfold bindL;exact Gx (i:=i) (List.nodup_cons.mp nd).2 (by simpa using h1) (by simpa using h2) hk
theorem Gk{kindOf:Str→Option NameKind}{x:Str}{v:Value}:∀{P:List Str}{vs:List Value}{i:Nat}{m:Str→Option Value},P.Nodup→P[i]?=some x→vs[i]?=some v→kindOf x≠some .local→
  bindC kindOf (P.zip vs) m x=some v
 |[],_,_,_,_,h,_,_=>by simp at h
 |_::_,[],_,_,_,_,h,_=>by simp at h
 |p::P,w::vs,0,m,nd,h1,h2,hk=>by
  simp at h1 h2;subst h1;subst h2;show bindC kindOf ((p,w)::P.zip vs) m p=_;unfold bindC;rw[GA fun v hv=>(List.nodup_cons.mp nd).1 (List.of_mem_zip hv).1,if_neg hk];simp
 |p::P,w::vs,i+1,m,nd,h1,h2,hk=>by
  show bindC kindOf ((p,w)::P.zip vs) m x=_;unfold bindC;exact Gk (i:=i) (List.nodup_cons.mp nd).2 (by simpa using h1) (by simpa using h2) hk
noncomputable def start(N:List Str)(vs:List V):St:=vs.map some++List.replicate (N.length-vs.length) none
noncomputable def Md(CX:NQ)(P:Program)(w:World)(K:PySem.W.Frag)(mg:Str→Option Value)(base:Heap)(N:List Str)(qual:Str)(scope:Scope)(f:Addr)(cd:Value)(A:Around)(outer:List Env)(s:Shared)(H:Hp)(E:XK):Cx where
 prog:=P
 w:=w
 K:=K
 mg:=mg
 base:=base
 A:=A.deeper (envOfC qual scope s.heap.objs.size f cd)
 N:=N
 s₀:=s
 H₀:=H
 env:=envOfC qual scope s.heap.objs.size f cd
 outer:=outer
 stack:=envOfC qual scope s.heap.objs.size f cd::outer
 ex:=[]
 calm:=true
 fn:=fun _=>true
 pn:=[]
 xe:=fun e s'=>wpAny (model P w) (A.deeper (envOfC qual scope s.heap.objs.size f cd)) (leaving (envOfC qual scope s.heap.objs.size f cd) e) (fun _ s''=>CX outer H s E e s'') (fun e' s''=>CX outer H s E e' s'') s'
theorem JL{sc:Scope}{n:Nat}{x:Str}(h:sc.names.lookup x=some .cell):∃ c,(cellsFrom n sc.names []).lookup x=some c:=by
 have q:=PySem.W.cellsFrom_some sc.names n [] (.inl h);exact Option.isSome_iff_exists.mp q
theorem L4{CX:NQ}{P:Program}{w:World}{K:PySem.W.Frag}{mg:Str→Option Value}{base:Heap}{N ps:List Str}{qual:Str}{scope:Scope}{f:Addr}{cd:Value}{A:Around}{outer:List Env}{s s1:Shared}{H:Hp}{E:XK}{us:List Value}{vs:List V}
  (S:ao N ps scope) (hd:A.handled=none) (e0:Kg P w K mg base A outer s H) (hl:vs.length=ps.length) (r:Vals vs us)
  (x:InCallC s s.heap.objs.size (bindL (envOfC qual scope s.heap.objs.size f cd).kindOf (ps.zip us) fun _=>none) (cellsFrom (s.heap.objs.size+1) scope.names []) (bindC (envOfC qual scope s.heap.objs.size f cd).kindOf (ps.zip us) fun _=>none) s1) :
  Inv (Md CX P w K mg base N qual scope f cd A outer s H E) [] (start N vs) H s1:=by
 have hpl:ps.length≤N.length:=by have:=congrArg List.length S.pre;rw[List.length_take]at this;omega
 obtain⟨h1,tk,rfl,hk⟩:=x.done;have noA:∀ b:Addr,b ∉ (Md CX P w K mg base N qual scope f cd A outer s H E).ex:=fun b z=>absurd (show b∈([]:List Addr) from z) (by simp)
 refine⟨⟨e0.mod,S.kind,rfl,rfl,Nat.le_refl _,fun y z c h1 h2=>?_,fun y hy=>?_,fun y c _ h=>?_,fun _=>hd,Around.frames_deeper e0.frames,.inr ⟨rfl,rfl⟩,fun b z=>absurd z (noA b),e0.bs,e0.Oz,fun b _ _=>noA b,fun b z=>absurd z (noA b),e0.De,e0.Qw⟩,
  rfl,e0.bare,Un.kept hk,⟨_,x.toInCall.ns,fun i y v h1 h2 h3=>?_⟩,fun y c h=>⟨_,x.cell y c h⟩,e0.fD.fresh (Nat.le_refl _),fun y c h=>?_,fun p hp=>absurd (show p∈([]:List (Addr×Obj)) from hp) (by simp),e0.fD.kept hk,?_⟩
 ·exact name_of_addr x.apart (PySem.mem_of_lookup h1) (PySem.mem_of_lookup h2)
 ·have hy:scope.names.lookup y=some .cell∨scope.names.lookup y=some .free:=hy;rcases hy with hy|hy
  ·exact JL hy
  ·exact absurd rfl (S.QF _ (PySem.mem_of_lookup hy))
 ·exact Nat.le_of_lt (x.above y c (PySem.mem_of_lookup h))
 ·have hi:i<vs.length:=by
   unfold start at h2;by_cases hi:i<vs.length
   ·exact hi
   ·rw[List.getElem?_append_right (by simpa using hi)]at h2;rw[List.getElem?_replicate]at h2
    split at h2<;>cases h2
  have ha:vs[i]?=some v:=by
   unfold start at h2;rw[List.getElem?_append_left (by simpa using hi),List.getElem?_map]at h2
   cases e:vs[i]? with
   |none=>rw[e]at h2;cases h2
   |some a=>rw[e]at h2;cases h2;rfl
  obtain⟨u,hu,rv⟩:=r.get ha;have hp:ps[i]?=some y:=by
   rw[←S.pre,List.getElem?_take_of_lt (by omega)];exact h1
  have ndP:ps.Nodup:=by rw[←S.pre];exact S.nd.sublist (List.take_sublist _ _)
  refine⟨u,rv,?_⟩;rcases S.par y (List.mem_of_getElem? hp)with k|k
  ·exact .inl ⟨k,Gx ndP hp hu k⟩
  ·obtain⟨c,e⟩:=JL (n:=s.heap.objs.size+1) k;refine .inr ⟨.inl k,c,e,?_⟩;have q:=x.cell y c e;rw[Gk ndP hp hu (by show scope.names.lookup y≠_;rw[k];decide)]at q;exact q
 ·exact e0.fD.fresh (Nat.le_of_lt (x.above y c (PySem.mem_of_lookup h)))
 ·unfold start;show _=N.length;rw[List.length_append,List.length_map,List.length_replicate];omega
theorem Rr{CX:NQ}{P:Program}{w:World}{K:PySem.W.Frag}{mg:Str→Option Value}{base:Heap}{k:Nat}{f:Addr}{name qual:Str}{params:Arguments}{body:List Stmt}{scope:Scope}{dV kV doc pm cdv ct oc:Value}{an od:Option Addr}
  {osl:Array (Option Value)} {N ps:List Str} {sp:Sp} (lk:K.lookup f=some ⟨oc,od,.func (PySem.W.fnOf name qual params body scope dV kV doc pm an cdv ct),osl⟩) (hcd:PySem.W.codeIn K cdv qual=true) (S:ao N ps scope)
  (len:∀ vs H Q E,sp vs H Q E→vs.length=ps.length)
  (hbody:∀(A:Around)(outer:List Env)(s:Shared)(H:Hp)(vs:List V)(Q:VK)(E:XK),mE k (A.deeper (envOfC qual scope s.heap.objs.size f cdv))→sp vs H Q E→
   ∃ t,Ms (Md CX P w K mg base N qual scope f cdv A outer s H E) body t∧t { nx:=fun _ H'=>Q .non H',rt:=Q } (start N vs) H) :
  aZ P w K mg base CX (k+1) f (PySem.W.fnOf name qual params body scope dV kV doc pm an cdv ct) ps sp:=by
 refine⟨len,fun A outer s H args us vs Q E hr e0 hb r hsp=>?_⟩;have hl:=len _ _ _ _ hsp;have KX:K.In s.heap:=e0.mod.QQ.keeps fun b o e=>(e0.bs b o e).1
 have lim:s.heap.NoLimit:=e0.mod.nolimit.keeps fun b o e=>(e0.bs b o e).1
 have hkind:∀ y∈ps.zip us,scope.names.lookup y.1=some .local∨(scope.names.lookup y.1=some .cell∧((cellsFrom (s.heap.objs.size+1) scope.names []).lookup y.1).isSome=true):=fun⟨n,v⟩ hy=>by
  rcases S.par n (List.of_mem_zip hy).1 with q|q
  ·exact .inl q
  ·exact .inr ⟨q,PySem.W.cellsFrom_some _ _ _ (.inl q)⟩
 refine codeAny_call_function hr.depth (KX _ _ lk) rfl S.co S.gen rfl (PySem.W.codeRec_of KX hcd) (hb _ _ _ _ ?_);refine wpAny_newFunctionEnv_cells S.kind hkind fun env he s1 x=>?_
 subst he;refine⟨lim.keeps x.toInCall.keep,codeAny_func ?_⟩;obtain⟨t,ht,hq⟩:=hbody A outer s H vs Q E (hr.deeper _) hsp;have I:Inv (Md CX P w K mg base N qual scope f cdv A outer s H E) [] (start N vs) H s1:=L4 S hr.hd e0 hl r x;refine wpAny_mono (ht [] s1 (start N vs) H _ I hq) (fun fl s' hs=>?_) fun e s' hs=>hs
 have fin:∀{σ':St}{H':Hp}{v:V}{u:Value},Inv (Md CX P w K mg base N qual scope f cdv A outer s H E) [] σ' H' s'→RelV v u→Q v H'→CE outer P w H s Q u s':=
  fun{σ' H' v u} J rv q=>⟨v,H',J.os,J.bare,J.base,J.fD,rv,q⟩
 cases fl with
 |ret u=>
  obtain⟨v,σ',H',J,rv,q⟩:=hs;exact fin J rv q
 |next=>
  obtain⟨σ',H',J,q⟩:=hs;exact fin (v:=V.non) (u:=Value.none) J rfl q
 |brk=>
  obtain⟨_,_,_,q⟩:=hs;exact False.elim q
 |cont=>
  obtain⟨_,_,_,q⟩:=hs;exact False.elim q
end L2
namespace L2
open PySem PySem.Spec PyProof.Rows
section
variable{X:Cx}{x:Str}{p pos:Pos}{e:Expr}{es:List Expr}{t:TA}{id T:String}{r:List V→Hp→VK→Prop}
def Te(r:List V→Hp→VK→Prop)(t:TA):TE:=fun σ H Q=>t σ H fun vs H1=>r vs H1 Q
theorem ba(hc:zD X (.builtin id) r)(hg:Gl X x)(hm:X.mg x=none)(hv:bootBuiltins x=some (.builtin id))(ha:PA X (e::es) t)(hn:x≠"__name__":=by decide)(hdb:(x==("__debug__":Str))=false:=by decide)
  (he:starEach (e::es) X.env=(false,eval e X.env)::starEach es X.env:=by rfl) (hpl:(backTo pos (starEach es X.env)).any (·.1)=false:=by rfl):PE X (.Call (.Name x p) (e::es) [] pos) (Te r t):=by
 intro pins s σ H Q I h;refine wpAny_Call_Name_kw (Kq I hg hm hv ?_ hn hdb);exact PyProof.Rows.callWith_builtin1 (gM (ha pos pins s σ H _ I h) fun us s1 ⟨vs,H1,I1,r1,q1⟩=>hc pins s1 σ H1 vs us Q I1 r1 q1) he hpl
theorem gG(hc:zD X (.type T) r)(hg:Gl X x)(hm:X.mg x=none)(hv:bootBuiltins x=some (.type T))(ha:PA X (e::es) t)(hn:x≠"__name__":=by decide)(hdb:(x==("__debug__":Str))=false:=by decide)
  (he:starEach (e::es) X.env=(false,eval e X.env)::starEach es X.env:=by rfl) (hpl:(backTo pos (starEach es X.env)).any (·.1)=false:=by rfl):PE X (.Call (.Name x p) (e::es) [] pos) (Te r t):=by
 intro pins s σ H Q I h;refine wpAny_Call_Name_kw (Kq I hg hm hv ?_ hn hdb);exact PyProof.Rows.callWith_type1 (gM (ha pos pins s σ H _ I h) fun us s1 ⟨vs,H1,I1,r1,q1⟩=>hc pins s1 σ H1 vs us Q I1 r1 q1) he hpl
end
end L2
namespace HT
open PySem PyProof.Rows
section
open PySem.SeqAt
open PySem.AutoSeq1 (wpAny_loadPart')
open PySem.MeetsSeq PySem.MeetsSeq2 PySem.MeetsSeq3
end
section
variable{prog:Program}{w:World}{A:Around}{E:Value→Shared→Prop}{s:Shared}
noncomputable def Iz(n d:Nat):Option Int→Nat
 |none=>d
 |some v=>if v<0 then(v+(n:Int)).toNat else min v.toNat n
theorem JD(n d:Nat):Iz n d none=d:=rfl
theorem HX(n d k:Nat):Iz n d (some (k:Int))=min k n:=by
 show(if(k:Int)<0 then((k:Int)+(n:Int)).toNat else min (k:Int).toNat n)=min k n;rw[if_neg (by omega),Int.toNat_natCast]
end
end HT
namespace L2
open PySem PySem.Spec PyProof.Rows
noncomputable abbrev TO:=St→Hp→(Option Int→Hp→Prop)→Prop
def PO(X:Cx)(e:Option Expr)(t:TO):Prop:=
 ∀(pins:List (Addr×Obj))(s:Shared)(σ:St)(H:Hp)(Q:Option Int→Hp→Prop),Inv X pins σ H s→t σ H Q→
  wpAny (model X.prog X.w) X.A (evalPart e X.env) (fun u s'=>∃ o H',Inv X pins σ H' s'∧IsPart u o∧Q o H') X.xe s
noncomputable def OX:TO:=fun _ H Q=>Q none H
noncomputable def Ru(t:TE):TO:=fun σ H Q=>t σ H fun x H1=>∃ i,x=.int i∧Q (some i) H1
theorem intsAre_of{ns:List Int}:∀{us:List Value},Vals (ns.map V.int) us→IntsAre us ns:=by
 induction ns with
 |nil=>intro us r;rw[List.map_nil]at r;cases r;exact .nil
 |cons n ns ih=>
  intro us r;rw[List.map_cons]at r
  cases r with
  |cons r1 r2=>
   obtain⟨t,e⟩:=r1;subst e;exact .cons n t (ih r2)
section
variable{X:Cx}{e:Expr}{te:TE}{lo hi:Option Expr}{tl th:TO}{pos p2:Pos}
theorem HG:PO X none OX:=by
 intro pins s σ H Q I h;rw[evalPart_none];exact wpAny_pure ⟨none,H,I,.none,h⟩
theorem ua(h:PE X e te):PO X (some e) (Ru te):=by
 intro pins s σ H Q I hw;rw[evalPart_some];refine gM (h pins s σ H _ I hw) fun u s1 ⟨x,H1,I1,r1,q1⟩=>?_
 obtain⟨i,rfl,q⟩:=q1;obtain⟨t,rfl⟩:=r1;exact⟨some i,H1,I1,.int i t,q⟩
def SQ(X:Cx)(r:V→Option Int→Option Int→Hp→VK→Prop):Prop:=
 ∀(pins:List (Addr×Obj))(s:Shared)(σ:St)(H:Hp)(x:V)(v vl vu:Value)(lo hi:Option Int)(sl:Addr)(Q:VK),Inv X pins σ H s→RelV x v→s.heap.IsSliceOf sl vl vu .none→IsPart vl lo→IsPart vu hi→r x lo hi H Q→
  ∃ T id,typeLookup (.type T) "__getitem__"=pure (some (.builtin id))∧s.TypeIs v T∧wpAny (model X.prog X.w) X.A (getItem v (.ref sl)) (EP X pins σ Q) X.xe s
def Tj(r:V→Option Int→Option Int→Hp→VK→Prop)(te:TE)(tl th:TO):TE:=fun σ H Q=>te σ H fun x H1=>tl σ H1 fun l H2=>th σ H2 fun u H3=>r x l u H3 Q
theorem wB{r:V→Option Int→Option Int→Hp→VK→Prop}(hr:SQ X r)(he:PE X e te)(hl:PO X lo tl)(hu:PO X hi th):PE X (.Subscript e (.Slice lo hi none p2) pos) (Tj r te tl th):=by
 intro pins s σ H Q I h;refine Subscript_ (gM (he pins s σ H _ I h) fun v s1 ⟨x,H1,I1,r1,q1⟩=>?_);refine wpAny_Slice (gM (hl pins s1 σ H1 _ I1 q1) fun vl s2 ⟨l,H2,I2,pl,q2⟩=>gM (hu pins s2 σ H2 _ I2 q2) fun vu s3 ⟨u,H3,I3,pu,q3⟩=>?_);rw[evalPart_none];refine wpAny_pure ?_;have I4:Inv X pins σ H3 { s3 with heap:=s3.heap.push { cls:=.type "slice",data:=.fields #[vl,vu,.none] } }:=I3.kept (t':=s3.toks) fun b ob q=>Heap.get?_push_of_some _ q
 obtain⟨T,id,hT,ht,hg⟩:=hr pins { s3 with heap:=s3.heap.push { cls:=.type "slice",data:=.fields #[vl,vu,.none] } } σ H3 x v vl vu l u s3.heap.objs.size Q I4 r1 (Heap.IsSliceOf.new ..) pl pu q3
 show wpAny (model X.prog X.w) X.A (subscriptTail e (.Slice lo hi none p2) v (.ref s3.heap.objs.size)) (EP X pins σ Q) X.xe { s3 with heap:=s3.heap.push { cls:=.type "slice",data:=.fields #[vl,vu,.none] } }
 exact tail_any (ops:=[.ref s3.heap.objs.size,v]) ht hT hg (by with_unfolding_all rfl)
noncomputable def DV(xs:List V)(lo hi:Option Int):List V:=(xs.drop (HT.Iz xs.length 0 lo)).take (HT.Iz xs.length xs.length hi-HT.Iz xs.length 0 lo)
theorem JG(xs:List V)(lo hi:Option Int):(DV xs lo hi).length≤xs.length:=by
 unfold DV;rw[List.length_take,List.length_drop];omega
end
end L2
namespace L2
open PySem PySem.Spec PyProof.Rows
noncomputable def Mv(n:Nat)(i:Int):Option Nat:=if 0≤i then(if i<n then some i.toNat else none)else if -(n:Int)≤i then some (i+n).toNat else none
noncomputable def IA{α:Type}(xs:List α)(i:Int):Option α:=(Mv xs.length i).bind fun j=>xs[j]?
theorem LA{n:Nat}{i:Int}{j:Nat}(h:Mv n i=some j):seqIndex? i n=some j∧j<n∧-(n:Int)≤i∧i<n:=by
 unfold Mv at h;by_cases h0:0≤i
 ·rw[if_pos h0]at h;by_cases h1:i<n
  ·rw[if_pos h1]at h;have e:i.toNat=j:=Option.some.inj h;exact⟨by rw[seqIndex_of h0 h1,e],by omega,by omega,h1⟩
  ·rw[if_neg h1]at h;cases h
 ·rw[if_neg h0]at h;by_cases h1:-(n:Int)≤i
  ·rw[if_pos h1]at h;have e:(i+n).toNat=j:=Option.some.inj h;exact⟨by rw[seqIndex_neg (by omega) h1,e],by omega,h1,by omega⟩
  ·rw[if_neg h1]at h;cases h
theorem LO{α:Type}{xs:List α}{i:Int}{v:α}(h:IA xs i=some v):∃ j,seqIndex? i xs.length=some j∧xs[j]?=some v∧j<xs.length∧-(xs.length:Int)≤i∧i<xs.length:=by
 unfold IA at h
 cases e:Mv xs.length i with
 |none=>rw[e]at h;cases h
 |some j=>
  rw[e]at h;obtain⟨h1,h2,h3,h4⟩:=LA e;exact⟨j,h1,h,h2,h3,h4⟩
theorem ar{α:Type}{xs:List α}{j:Nat}{v:α}(h:xs[j]?=some v):IA xs (j:Int)=some v:=by
 have hj:j<xs.length:=(List.getElem?_eq_some_iff.mp h).1;have e:Mv xs.length (j:Int)=some j:=by
  unfold Mv;rw[if_pos (by omega),if_pos (by omega)];simp
 unfold IA;rw[e];exact h
theorem Ak{α:Type}(xs:List α)(v:α):IA (xs++[v]) (-1)=some v:=by
 have hl:(xs++[v]).length=xs.length+1:=by simp
 have e:Mv (xs++[v]).length (-1)=some xs.length:=by
  unfold Mv;rw[hl,if_neg (by decide),if_pos (by omega)]
  congr 1
  omega
 unfold IA;rw[e];show(xs++[v])[xs.length]?=some v;simp
def O4(b:Expr):Prop:=∀ o i,subscripted b false o i=operate [o,i] (getItem o i)
def RT(X:Cx)(r:R2):Prop:=
 ∀(value slice:Expr)(pins:List (Addr×Obj))(s:Shared)(σ:St)(H:Hp)(x y:V)(v u:Value)(Q:VK),Inv X pins σ H s→RelV x v→RelV y u→r x y H Q→
  subscripted slice false v u=operate [v,u] (getItem v u)→wpAny (model X.prog X.w) X.A (subscriptTail value slice v u) (EP X pins σ Q) X.xe s
def Q4(X:Cx)(id:String)(r:V→List V→Hp→VK→Prop):Prop:=
 ∀(pins:List (Addr×Obj))(s:Shared)(σ:St)(H:Hp)(x:V)(xs:List V)(v:Value)(us:List Value)(Q:VK),Inv X pins σ H s→RelV x v→Vals xs us→r x xs H Q→
  wpAny (model X.prog X.w) X.A (call (.builtin id) (v::us)) (EP X pins σ Q) X.xe s
section
variable{X:Cx}{a b:Expr}{ta tb:TE}{pos:Pos}
theorem aM{r:R2}(hr:RT X r)(ha:PE X a ta)(hb:PE X b tb)(hs:O4 b):PE X (.Subscript a b pos) (RL r ta tb):=by
 intro pins s σ H Q I h;exact Subscript_ (Qs ha hb I h fun v u s2 x y H2 I2 rx ry q=>hr a b pins s2 σ H2 x y v u Q I2 rx ry q (hs _ _))
inductive Sr(K:PySem.W.Frag)(x y:V)(H:Hp)(Q:VK):Prop
 |mk(p:Addr)(xs:List V)(i:Int)(v:V)(_:x=.ref p)(_:y=.int i)(_:bD K H p xs)(_:IA xs i=some v)(_:Q v H)
noncomputable def SJ(K:PySem.W.Frag):R2:=fun x y H Q=>Sr K x y H Q
inductive Sg(K:PySem.W.Frag)(x y:V)(H:Hp)(Q:VK):Prop
 |mk(p:Addr)(xs:List V)(i:Int)(v:V)(_:x=.ref p)(_:y=.int i)(_:tK K H p xs)(_:IA xs i=some v)(_:Q v H)
noncomputable def Si(K:PySem.W.Frag):R2:=fun x y H Q=>Sg K x y H Q
theorem aD:RT X (SJ X.K):=by
 intro value slice pins s σ H x y v u Q I rx ry h hs;obtain⟨p,xs,i,z,rfl,rfl,hq,he,q⟩:=h;cases rx;obtain⟨t,rfl⟩:=ry;obtain⟨its,r,pl,hz⟩:=I.list hq;obtain⟨j,h1,h2,h3,h4,h5⟩:=LO he;obtain⟨w,ew,rw'⟩:=r.get h2;have hl:=r.length;have hn:=Eg;have fin:EP X pins σ Q w s:=⟨z,H,I,rw',q⟩
 by_cases h0:0≤i
 ·have hj:i.toNat=j:=by
   rw[seqIndex_of h0 h5]at h1;exact Option.some.inj h1
  exact item_listR pl.isList h0 (by omega) (by rw[hj];simpa using ew) fin hs
 ·have hj:(i+(its.toArray.size:Int)).toNat=j:=by
   rw[seqIndex_neg (by omega) h4]at h1;rw[List.size_toArray,←hl];exact Option.some.inj h1
  exact subscriptTail_builtinR (x:=w) pl.isList.typeIs slot_list_getitem.lookup
   (wpAny_getItem_list_neg (Q:=fun r s'=>r=w∧EP X pins σ Q r s') pl.isList (by omega) (by rw[List.size_toArray]<;>omega) (by omega) (by rw[hj];simpa using ew) ⟨rfl,fin⟩) hs
theorem dU:RT X (Si X.K):=by
 intro value slice pins s σ H x y v u Q I rx ry h hs;obtain⟨p,xs,i,z,rfl,rfl,hq,he,q⟩:=h;cases rx;obtain⟨t,rfl⟩:=ry;obtain⟨its,r,pl,hz⟩:=I.tuple hq;obtain⟨j,h1,h2,h3,h4,h5⟩:=LO he;obtain⟨w,ew,rw'⟩:=r.get h2;have hl:=r.length;have hn:=Eg;have fin:EP X pins σ Q w s:=⟨z,H,I,rw',q⟩
 exact subscriptTail_builtinR (x:=w) pl.typeIs slot_tuple_getitem.lookup
  (getItem_tuple (j:=j) (Q:=fun r s'=>r=w∧EP X pins σ Q r s') pl (by omega) (by omega) (by rw[List.size_toArray,←hl];exact h1) (by simpa using ew) ⟨rfl,fin⟩) hs
theorem J4(its:List Value)(n j:Nat)(u:Value):Obj.mapSeq (·.setIfInBounds j u) { cls:=.type "list",data:=.seq its.toArray n }={ cls:=.type "list",data:=.seq (its.set j u).toArray n }:=by
 simp[Obj.mapSeq]
theorem Inv.lst{pins:List (Addr×Obj)}{σ:St}{H:Hp}{s:Shared}{p:Addr}{xs:List V}(I:Inv X pins σ H s)(h:H p=some (.lst xs)) :
  ∃(its:List Value)(n:Nat),Vals xs its∧s.heap.get? p=some { cls:=.type "list",data:=.seq its.toArray n }∧xs.length≤sizeLine:=by
 obtain⟨z,its,n,r,e⟩:=I.fD p _ h;exact⟨its,n,r,e,z⟩
theorem Inv.P8{pins:List (Addr×Obj)}{σ:St}{H:Hp}{s:Shared}{p:Addr}{xs ys:List V}{its its':List Value}{n n':Nat}{f:Obj→Obj}(I:Inv X pins σ H s)(h:H p=some (.lst xs))
  (ho:s.heap.get? p=some { cls:=.type "list",data:=.seq its.toArray n }) (hf:f { cls:=.type "list",data:=.seq its.toArray n }={ cls:=.type "list",data:=.seq its'.toArray n' }) (r:Vals ys its') (hz:ys.length≤sizeLine) (t:Nat) :
  Inv X pins σ (upd H p (.lst ys)) { s with heap:=s.heap.update p f,toks:=t }:=by
 have e:(s.heap.update p f).get? p=some { cls:=.type "list",data:=.seq its'.toArray n' }:=by
  rw[Heap.get?_update_self f ho (by rw[hf]<;>rfl),hf]
 refine I.write (x:=p) (e:=p) (by rw[h];trivial) (.inl rfl) (fun b u hb q=>(Heap.get?_update_other _ _ (Ne.symm hb)).trans q) ⟨_,e⟩ ?_;exact⟨hz,its',n',r,e⟩
noncomputable def Rz:V→V→V→Hp→(Hp→Prop)→Prop:=fun o i v H Q=>∃ p xs k j,o=.ref p∧i=.int k∧H p=some (.lst xs)∧Mv xs.length k=some j∧Q (upd H p (.lst (xs.set j v)))
theorem set_list:Qc X Rz:=by
 intro pins s σ H o i v ov iv u Q I ro ri rv h;obtain⟨p,xs,k,j,rfl,rfl,hp,hj,q⟩:=h;cases ro;obtain⟨t,rfl⟩:=ri;obtain⟨its,n,r,ho,hz⟩:=I.lst hp;obtain⟨h1,h2,h3,h4⟩:=LA hj;have hl:=r.length;have hn:=Eg;have I':Inv X pins σ (upd H p (.lst (xs.set j v))) { s with heap:=s.heap.update p (Obj.mapSeq (·.setIfInBounds j u)) }:=
  I.P8 hp ho (J4 its n j u) (r.set rv j) (by rw[List.length_set];exact hz) s.toks
 by_cases h0:0≤k
 ·have hk:k.toNat=j:=by
   rw[seqIndex_of h0 h4]at h1;exact Option.some.inj h1
  exact PySem.W.ki_setAt ho h0 (by omega) (by rw[List.size_toArray,←hl];exact h4) (by rw[hk];exact⟨_,I',q⟩)
 ·have hk:(k+(its.toArray.size:Int)).toNat=j:=by
   rw[seqIndex_neg (by omega) h3]at h1;rw[List.size_toArray,←hl];exact Option.some.inj h1
  exact PySem.W.ki_setBack ho (by omega) (by rw[List.size_toArray,←hl];exact h3) (by omega) (by rw[hk];exact⟨_,I',q⟩)
theorem HF(lo hi:Option Int)(n:Nat):(sliceBounds lo hi none n).1=((HT.Iz n 0 lo:Nat):Int)∧(sliceBounds lo hi none n).2.1=((HT.Iz n n hi:Nat):Int)∧(sliceBounds lo hi none n).2.2=1:=by
 refine⟨?_,?_,rfl⟩
 ·cases lo with
  |none=>simp[sliceBounds,HT.Iz]
  |some i=>
   simp only[sliceBounds,HT.Iz,Option.getD_none,show(1:Int)>0 by decide,if_true];by_cases h:i<0
   ·simp only[h,if_true]<;>omega
   ·simp only[h,if_false]<;>omega
 ·cases hi with
  |none=>simp[sliceBounds,HT.Iz]
  |some i=>
   simp only[sliceBounds,HT.Iz,Option.getD_none,show(1:Int)>0 by decide,if_true];by_cases h:i<0
   ·simp only[h,if_true]<;>omega
   ·simp only[h,if_false]<;>omega
theorem FI(its:List Value)(lo hi:Option Int):slicePick its.toArray lo hi none=((its.drop (HT.Iz its.length 0 lo)).take (HT.Iz its.length its.length hi-HT.Iz its.length 0 lo)).toArray:=by
 obtain⟨h1,h2,h3⟩:=HF lo hi its.toArray.size;unfold slicePick;rw[h1,h2,h3];simp only[sliceRange_one,pick_run,List.size_toArray]<;>rfl
noncomputable def Sx(K:PySem.W.Frag):V→Option Int→Option Int→Hp→VK→Prop:=fun x lo hi H Q=>∃ a xs,x=.ref a∧bD K H a xs∧∀ p,H p=none→Q (.ref p) (upd H p (.lst (DV xs lo hi)))
theorem Aj:SQ X (Sx X.K):=by
 intro pins s σ H x v vl vu lo hi sl Q I rx hs pl pu h;obtain⟨a,xs,rfl,hx,q⟩:=h;cases rx;obtain⟨its,r,ht,hz⟩:=I.list hx;have hlen:=r.length;refine⟨"list",_,slot_list_getitem.lookup,ht.isList.typeIs,?_⟩
 refine wpAny_getItem_list_slice ht.isList hs pl pu .none (by simp) ?_ (by rw[List.size_toArray]<;>omega);rw[FI,←hlen];refine⟨.ref s.heap.objs.size,_,I.laid (t':=s.toks) (o:=.lst (DV xs lo hi)) (fun b ob q=>Heap.get?_push_of_some _ q) (Nat.le_refl _) ?_,rfl,q _ (I.fD.fresh (Nat.le_refl _))⟩;exact⟨Nat.le_trans (JG xs lo hi) hz,_,0,(r.drop (HT.Iz xs.length 0 lo)).take (HT.Iz xs.length xs.length hi-HT.Iz xs.length 0 lo),Heap.get?_push_size _ rfl⟩
noncomputable def sW:V→Bool
 |.non=>true
 |.bl _=>true
 |.int _=>true
 |.str _=>true
 |_=>false
noncomputable def OA:V→V→Bool
 |.non,.non=>true
 |.bl a,.bl b=>a==b
 |.bl a,.int b=>(if a then 1 else 0)==b
 |.int a,.bl b=>a==(if b then 1 else 0)
 |.int a,.int b=>a==b
 |.str a,.str b=>a==b
 |_,_=>false
theorem QG{A:Around}{s:Shared}{y x:V}{u v:Value}(ry:RelV y u)(rx:RelV x v)(fy:sW y=true)(fx:sW x=true):SeqAt.EqAt A s u v (OA y x):=by
 cases y with
 |non=>
  cases ry
  cases x with
  |non=>cases rx;exact SeqAt.EqAt.same _
  |bl b=>cases rx;exact SeqAt.EqAt.none_bool b
  |int b=>obtain⟨t,rfl⟩:=rx;exact SeqAt.EqAt.none_int b t
  |str b=>obtain⟨t,rfl⟩:=rx;exact SeqAt.EqAt.none_str b t
  |_=>exact absurd (show false=true from fx) Bool.false_ne_true
 |bl a=>
  cases ry
  cases x with
  |non=>cases rx;exact SeqAt.EqAt.bool_none a
  |bl b=>cases rx;exact SeqAt.EqAt.bool_bool a b
  |int b=>obtain⟨t,rfl⟩:=rx;exact SeqAt.EqAt.bool_int a b t
  |str b=>obtain⟨t,rfl⟩:=rx;exact SeqAt.EqAt.bool_str a b t
  |_=>exact absurd (show false=true from fx) Bool.false_ne_true
 |int a=>
  obtain⟨t',rfl⟩:=ry
  cases x with
  |non=>cases rx;exact SeqAt.EqAt.int_none a t'
  |bl b=>cases rx;exact SeqAt.EqAt.int_bool a t' b
  |int b=>obtain⟨t,rfl⟩:=rx;exact SeqAt.EqAt.int_int a t' b t
  |str b=>obtain⟨t,rfl⟩:=rx;exact SeqAt.EqAt.int_str a t' b t
  |_=>exact absurd (show false=true from fx) Bool.false_ne_true
 |str a=>
  obtain⟨t',rfl⟩:=ry
  cases x with
  |non=>cases rx;exact SeqAt.EqAt.str_none a t'
  |bl b=>cases rx;exact SeqAt.EqAt.str_bool a t' b
  |int b=>obtain⟨t,rfl⟩:=rx;exact SeqAt.EqAt.str_int a t' b t
  |str b=>obtain⟨t,rfl⟩:=rx;exact SeqAt.EqAt.str_str a t' b t
  |_=>exact absurd (show false=true from fx) Bool.false_ne_true
 |_=>exact absurd (show false=true from fy) Bool.false_ne_true
noncomputable def JQ(x:V)(u:Value):Bool:=match u with
 |.none=>OA .non x
 |.bool b=>OA (.bl b) x
 |.int i _=>OA (.int i) x
 |.str z _=>OA (.str z) x
 |_=>false
theorem GN{x y:V}{u:Value}(r:RelV y u)(f:sW y=true):JQ x u=OA y x:=by
 cases y with
 |non=>cases r;rfl
 |bl b=>cases r;rfl
 |int i=>obtain⟨t,rfl⟩:=r;rfl
 |str z=>obtain⟨t,rfl⟩:=r;rfl
 |_=>exact absurd (show false=true from f) Bool.false_ne_true
theorem zq{x:V}:∀{xs:List V}{us:List Value},Vals xs us→xs.all sW=true→us.any (JQ x)=xs.any fun y=>OA y x
 |_,_,.nil,_=>rfl
 |y::xs,u::us,.cons r t,f=>by
  rw[List.all_cons,Bool.and_eq_true]at f;rw[List.any_cons,List.any_cons,GN r f.1,zq t f.2]
theorem tj{A:Around}{s:Shared}{x:V}{v:Value}(rx:RelV x v)(fx:sW x=true):∀{xs:List V}{us:List Value},Vals xs us→xs.all sW=true→∀ u∈us,SeqAt.EqAt A s u v (JQ x u)
 |_,_,.nil,_=>fun u hu=>by cases hu
 |y::xs,u::us,.cons r t,f=>fun u' hu=>by
  rw[List.all_cons,Bool.and_eq_true]at f;rcases List.mem_cons.mp hu with rfl|hu
  ·rw[GN r f.1];exact QG r rx f.1 fx
  ·exact tj rx fx t f.2 u' hu
noncomputable def Pe(x:V)(xs:List V):Bool:=xs.any fun y=>OA y x
noncomputable def SR(K:PySem.W.Frag)(neg:Bool):R2:=fun x y H Q=>∃ p xs,y=.ref p∧(bD K H p xs∨tK K H p xs)∧sW x=true∧xs.all sW=true∧Q (.bl (if neg then !Pe x xs else Pe x xs)) H
theorem Ml:MP X (compareOp .In) (SR X.K false):=by
 intro pins s σ H x y v u Q I rx ry h;obtain⟨p,xs,rfl,hq,fx,fs,q⟩:=h;cases ry;rcases hq with hq|hq
 ·obtain⟨its,r,pl,hz⟩:=I.list hq;refine SeqAt.in_listAt (JQ x) pl.isList (fun w hw=>tj rx fx r fs w (by simpa using hw)) ⟨.bl _,H,I,rfl,?_⟩;rw[show its.toArray.any (JQ x)=its.any (JQ x) by simp,zq r fs];exact q
 ·obtain⟨its,r,pl,hz⟩:=I.tuple hq;refine SeqAt.in_tupleAt (JQ x) pl (fun w hw=>tj rx fx r fs w (by simpa using hw)) ⟨.bl _,H,I,rfl,?_⟩;rw[show its.toArray.any (JQ x)=its.any (JQ x) by simp,zq r fs];exact q
theorem GJ:MP X (compareOp .NotIn) (SR X.K true):=by
 intro pins s σ H x y v u Q I rx ry h;obtain⟨p,xs,rfl,hq,fx,fs,q⟩:=h;cases ry;rcases hq with hq|hq
 ·obtain⟨its,r,pl,hz⟩:=I.list hq;refine SeqAt.notIn_listAt (JQ x) pl.isList (fun w hw=>tj rx fx r fs w (by simpa using hw)) ⟨.bl _,H,I,rfl,?_⟩;rw[show its.toArray.any (JQ x)=its.any (JQ x) by simp,zq r fs];exact q
 ·obtain⟨its,r,pl,hz⟩:=I.tuple hq;refine SeqAt.notIn_tupleAt (JQ x) pl (fun w hw=>tj rx fx r fs w (by simpa using hw)) ⟨.bl _,H,I,rfl,?_⟩;rw[show its.toArray.any (JQ x)=its.any (JQ x) by simp,zq r fs];exact q
inductive Sa(K:PySem.W.Frag)(xs:List V)(H:Hp)(Q:VK):Prop
 |mk(p:Addr)(ys:List V)(_:xs=[.ref p])(_:bD K H p ys∨tK K H p ys)(_:Q (.int ys.length) H)
theorem aP:zD X (.builtin "len") (Sa X.K):=by
 intro pins s σ H xs us Q I r h;obtain⟨p,ys,rfl,hq,q⟩:=h;obtain⟨u,rfl,rx⟩:=vals1 r;cases rx;have hn:=Eg;rcases hq with hq|hq
 ·obtain⟨its,r',pl,hz⟩:=I.list hq;have hlen:=r'.length;exact Calls.call_len_list pl.isList (by simp only[List.size_toArray]<;>omega) ⟨.int ys.length,H,I.tok _,⟨s.toks+1,by rw[List.size_toArray,hlen]⟩,q⟩
 ·obtain⟨its,r',pl,hz⟩:=I.tuple hq;have hlen:=r'.length;exact len_tuple pl (by simp only[List.size_toArray]<;>omega) ⟨.int ys.length,H,I.tok _,⟨s.toks+1,by rw[List.size_toArray,hlen]⟩,q⟩
theorem t6:zD X (.builtin "len") (fun xs H Q=>∃ z,xs=[.str z]∧z.length≤sizeLine∧Q (.int z.length) H):=by
 intro pins s σ H xs us Q I r h;obtain⟨z,rfl,hz,q⟩:=h;obtain⟨u,rfl,t,rfl⟩:=vals1 r;have hn:=Eg;exact len_str (by omega) ⟨.int z.length,H,I.tok _,⟨_,rfl⟩,q⟩
theorem eK:zD X (.type "list") (fun xs H Q=>∃ p ys,xs=[.ref p]∧(bD X.K H p ys∨tK X.K H p ys)∧∀ l,H l=none→Q (.ref l) (upd H l (.lst ys))):=by
 intro pins s σ H xs us Q I r h;obtain⟨p,ys,rfl,hq,q⟩:=h;obtain⟨u,rfl,rx⟩:=vals1 r;cases rx;have fin:∀(its:List Value),Vals ys its→ys.length≤sizeLine→∀(h':Heap)(c':Nat),(∀ b o',s.heap.get? b=some o'→h'.get? b=some o')→
   h'.get? s.heap.objs.size=some { cls:=.type "list",dict:=none,data:=.seq its.toArray c',slots:=#[] }→EP X pins σ Q (.ref s.heap.objs.size) { s with heap:=h' }:=fun its r' hz h' c' kp e=>
  ⟨.ref s.heap.objs.size,_,I.laid (t':=s.toks) kp (Nat.le_refl _) (show qR X.prog X.w _ h' _ (.lst ys) from⟨hz,its,c',r',e⟩),rfl,q _ (I.fD.fresh (Nat.le_refl _))⟩
 rcases hq with hq|hq
 ·obtain⟨its,r',pl,hz⟩:=I.list hq;have hlen:=r'.length;obtain⟨o,ho,hc,n,hd⟩:=pl.isList;exact call_list_seq p (.inl rfl) ho hc hd (fun h' c' kp e=>fin its r' hz h' c' kp e) (by simp only[List.size_toArray]<;>omega)
 ·obtain⟨its,r',pl,hz⟩:=I.tuple hq;have hlen:=r'.length;obtain⟨o,ho,hc,n,hd⟩:=pl;exact call_list_seq p (.inr rfl) ho hc hd (fun h' c' kp e=>fin its r' hz h' c' kp e) (by simp only[List.size_toArray]<;>omega)
def RV(K:PySem.W.Frag)(T:String)(x:V)(H:Hp):Prop:=match x with
 |.str _=>T="str"
 |.int _=>T="int"
 |.ref p=>(T="list"∧∃ xs,bD K H p xs)∨(T="tuple"∧∃ o,K.lookup p=some o∧o.cls=.type "tuple"∧o.dict=none)∨
   (T="dict"∧((∃ kvs,H p=some (.dK kvs))∨∃ kvs,H p=some (.dT kvs)))∨(T="set"∧∃ S n,H p=some (.set S n))
 |_=>False
theorem NI{pins:List (Addr×Obj)}{σ:St}{H:Hp}{s:Shared}{T:String}{x:V}{v:Value}(I:Inv X pins σ H s)(r:RelV x v)(ty:RV X.K T x H) :
  s.TypeIs v T∧∀ a,v=.ref a→∃ ob,s.heap.get? a=some ob∧ob.dict=none:=by
 cases x with
 |str z=>
  obtain⟨t,rfl⟩:=r
  cases(show T="str" from ty)
  exact⟨typeIs_str s z t,fun _ e=>nomatch e⟩
 |int i=>
  obtain⟨t,rfl⟩:=r
  cases(show T="int" from ty)
  exact⟨typeIs_int s i t,fun _ e=>nomatch e⟩
 |ref p=>
  cases r;rcases ty with⟨rfl,xs,hq⟩|⟨rfl,o,hk,hc,hd⟩|⟨rfl,hk⟩|⟨rfl,S,n,hk⟩
  ·obtain⟨its,_,pl,_⟩:=I.list hq;refine⟨pl.isList.typeIs,fun a e=>?_⟩;cases e;obtain⟨o,n,e,c,hd,_⟩:=pl;exact⟨o,e,hd⟩
  ·refine⟨⟨o,I.IH p o hk,hc⟩,fun a e=>?_⟩;cases e;exact⟨o,I.IH _ o hk,hd⟩
  ·have z:∃ o,s.heap.get? p=some o∧o.ExactDict:=by
    rcases hk with⟨kvs,hk⟩|⟨kvs,hk⟩
    ·obtain⟨_,_,_,_,o,_,_,e,ex,_⟩:=I.fD p _ hk;exact⟨o,e,ex⟩
    ·obtain⟨_,_,_,_,o,_,_,e,ex,_⟩:=I.fD p _ hk;exact⟨o,e,ex⟩
   obtain⟨o,e,ex⟩:=z;refine⟨⟨o,e,ex.1⟩,fun a e2=>?_⟩;cases e2;exact⟨o,e,ex.2.1⟩
  ·obtain⟨o,_,_,_,e,ex,_⟩:=I.fD p _ hk;refine⟨⟨o,e,ex.1⟩,fun a e2=>?_⟩;cases e2;exact⟨o,e,ex.2.1⟩
 |_=>exact False.elim ty
def Sm(K:PySem.W.Frag)(T:String)(r:V→List V→Hp→VK→Prop)(to:TE):TE:=fun σ H Q=>to σ H fun x H1=>RV K T x H1∧r x [] H1 Q
def Tt(K:PySem.W.Frag)(T:String)(r:V→List V→Hp→VK→Prop)(to:TE)(t:TA):TE:=fun σ H Q=>to σ H fun x H1=>RV K T x H1∧t σ H1 fun xs H2=>r x xs H2 Q
variable{o e:Expr}{es:List Expr}{to:TE}{t:TA}{name:Str}{apos cpos:Pos}{T id:String}{r:V→List V→Hp→VK→Prop}
theorem N8(pa:PlainAttrs T)(slot:Slot T name id)(hty:typeOf (.builtin id)=pure (.type "method_descriptor"))(hm:Q4 X id r)(ho:PE X o to)
  (hbase:attributeBase o name X.env (eval o X.env)=eval o X.env:=by rfl) (hline:(apos.endLine==cpos.line)=true:=by rfl):PE X (.Call (.Attribute o name apos) [] [] cpos) (Sm X.K T r to):=by
 intro pins s σ H Q I h;refine wpAny_Call_method0_late hbase hline (gM (ho pins s σ H _ I h) fun v s1 ⟨x,H1,I1,r1,ty,q1⟩=>?_);obtain⟨h1,h2⟩:=NI I1 r1 ty;exact⟨T,id,pa,slot,hty,h1,h2,Calls.callWith_builtin rfl (PySem.evalArgs_none (hm pins s1 σ H1 x [] v [] Q I1 r1 .nil q1))⟩
theorem Am(pa:PlainAttrs T)(slot:Slot T name id)(hty:typeOf (.builtin id)=pure (.type "method_descriptor"))(hm:Q4 X id r)(ho:PE X o to)(ha:PA X (e::es) t)
  (hbase:attributeBase o name X.env (eval o X.env)=eval o X.env:=by rfl)
  (hfew:((backTo cpos (starEach (e::es) X.env)).all (fun x=>!x.1)&&(backToKw cpos (keywordEach [] X.env)).all (fun x=>x.1.isSome)
   && decide ((e::es).length+([]:List Keyword).length+(if([]:List Keyword).isEmpty then 0 else 1)<30))=true:=by rfl)
  (hline:(apos.endLine==cpos.line)=true:=by rfl) (hs:starEach (e::es) X.env=(false,eval e X.env)::starEach es X.env:=by rfl) (hplain:(backTo cpos (starEach es X.env)).any (·.1)=false:=by rfl) :
  PE X (.Call (.Attribute o name apos) (e::es) [] cpos) (Tt X.K T r to t):=by
 intro pins s σ H Q I h;refine wpAny_Call_method_late hbase hfew hline rfl (gM (ho pins s σ H _ I h) fun v s1 ⟨x,H1,I1,r1,ty,q1⟩=>?_);obtain⟨h1,h2⟩:=NI I1 r1 ty;refine⟨T,id,pa,slot,hty,h1,h2,?_⟩;have hA:=ha cpos pins s1 σ H1 _ I1 q1;rw[hs]at hA ⊢;refine Calls.callWith_builtin (by show(false||(backTo cpos (starEach es X.env)).any (·.1))=false;rw[hplain]<;>rfl) (Calls.evalArgs_plain ?_);exact gM hA fun us s2 ⟨vs,H2,I2,r2,q2⟩=>hm pins s2 σ H2 x vs v us Q I2 r1 r2 q2
end
end L2
namespace L2
open PySem PySem.Spec PyProof.Rows
def Sk(X:Cx)(id:String)(r:V→List V→Hp→VK→Prop):Prop:=
 ∀(pins:List (Addr×Obj))(s:Shared)(σ:St)(H:Hp)(x:V)(xs:List V)(v:Value)(us:List Value)(Q:VK),Inv X pins σ H s→RelV x v→Vals xs us→r x xs H Q→
  wpAny (model X.prog X.w) X.A (call (.builtin id) (v::us)) (EP X pins σ Q) X.xe s
theorem Vals.one:∀{x:V}{us:List Value},Vals [x] us→∃ u,us=[u]∧RelV x u
 |_,_,.cons r .nil=>⟨_,rfl,r⟩
theorem Vals.zero:∀{us:List Value},Vals [] us→us=[]
 |_,.nil=>rfl
theorem Vals.dropLast{xs:List V}{us:List Value}(h:Vals xs us):Vals xs.dropLast us.dropLast:=by
 induction h with
 |nil=>exact .nil
 |cons r t ih=>
  cases t with
  |nil=>exact .nil
  |cons q t'=>exact .cons r ih
theorem JZ{α:Type}(l:List α):l.eraseIdx (l.length-1)=l.dropLast:=by
 induction l with
 |nil=>rfl
 |cons a r ih=>
  cases r with
  |nil=>rfl
  |cons b r=>
   have e:(a::b::r).length-1=((b::r).length-1)+1:=by
    have h1:(a::b::r).length=r.length+2:=rfl;have h2:(b::r).length=r.length+1:=rfl;omega
   rw[e,List.eraseIdx_cons_succ,ih]
   all_goals rfl
section
variable{X:Cx}{pins:List (Addr×Obj)}{σ:St}{H:Hp}{s:Shared}{l b:Addr}{xs ys zs:List V}
theorem Inv.P6{its its':List Value}{n:Nat}{f:Array Value→Array Value}{t':Nat}(I:Inv X pins σ H s)(hH:H l=some (.lst xs))
  (e:s.heap.get? l=some { cls:=.type "list",data:=.seq its.toArray n }) (hf:f its.toArray=its'.toArray) (hv:Vals ys its') (hz:ys.length≤sizeLine) :
  Inv X pins σ (upd H l (.lst ys)) { s with heap:=s.heap.update l (Obj.mapSeq f),toks:=t' }:=by
 have q:=PySem.IsL.update e f;rw[hf]at q;refine I.write (x:=l) (e:=l) (by rw[hH];exact trivial) (.inl rfl) (fun b' u hb hu=>(Heap.get?_update_other s.heap (Obj.mapSeq f) (Ne.symm hb)).trans hu) ⟨_,q⟩ ?_;exact⟨hz,its',_,hv,q⟩
theorem Inv.R5{its:List Value}{t':Nat}(I:Inv X pins σ H s)(hv:Vals ys its)(hz:ys.length≤sizeLine) :
  Inv X pins σ (upd H s.heap.objs.size (.lst ys)) { s with heap:=s.heap.push { cls:=.type "list",data:=.seq its.toArray },toks:=t' }:=
 I.laid (fun _ _ q=>Heap.get?_push_of_some _ q) (Nat.le_refl _) ⟨hz,its,0,hv,Heap.get?_push_size _ rfl⟩
theorem Inv.fresh(I:Inv X pins σ H s):H s.heap.objs.size=none:=I.fD.fresh (Nat.le_refl _)
theorem Inv.MX(I:Inv X pins σ H s)(hH:H l=some (.lst xs)):xs.length≤sizeLine∧∃(its:List Value)(n:Nat),Vals xs its∧xs.length=its.length∧s.heap.get? l=some { cls:=.type "list",data:=.seq its.toArray n }:=by
 obtain⟨z,its,n,r,e⟩:=I.fD l _ hH;exact⟨z,its,n,r,r.length,e⟩
theorem Ob{n:Nat}(h:n≤sizeLine):Builtin.List.listTooLong n=false:=by
 unfold Builtin.List.listTooLong;exact decide_eq_false (by omega)
end
section
variable{X:Cx}
inductive RW(x:V)(vs:List V)(H:Hp)(Q:VK):Prop
 |mk(l:Addr)(xs:List V)(y:V)(_:x=.ref l)(_:vs=[y])(_:H l=some (.lst xs))(_:xs.length<sizeLine)(_:Q .non (upd H l (.lst (xs++[y]))))
noncomputable def OH:V→List V→Hp→VK→Prop:=fun x vs H Q=>RW x vs H Q
theorem mI:Sk X "list.append" OH:=by
 intro pins s σ H x vs v us Q I rx rv h;obtain⟨l,xs,y,rfl,rfl,hH,hz,q⟩:=h;cases rx;obtain⟨u,rfl,ru⟩:=rv.one;obtain⟨z,its,n,r,hl,e⟩:=I.MX hH;refine call_meets F.slot_list_append ⟨_,e,rfl⟩ F.entry_list_append (F.args_list_append_2 _ _) (PySem.list_append l its.toArray n u (by rw[List.size_toArray];omega)) ⟨e,?_⟩;refine⟨.non,_,I.P6 (its':=its++[u]) hH e (by simp) (r.append (.cons ru .nil)) ?_,rfl,q⟩;rw[List.length_append,List.length_singleton];omega
noncomputable def OE:V→List V→Hp→VK→Prop:=fun x vs H Q=>∃ l b xs zs,x=.ref l∧vs=[.ref b]∧H l=some (.lst xs)∧H b=some (.lst zs)∧xs.length+zs.length≤sizeLine∧Q .non (upd H l (.lst (xs++zs)))
theorem Mz:Sk X "list.extend" OE:=by
 intro pins s σ H x vs v us Q I rx rv h;obtain⟨l,b,xs,zs,rfl,rfl,hH,hB,hz,q⟩:=h;cases rx;obtain⟨u,rfl,ru⟩:=rv.one;cases ru;obtain⟨z,its,n,r,hl,e⟩:=I.MX hH;obtain⟨z2,its2,n2,r2,hl2,e2⟩:=I.MX hB;have hsz:its.toArray.size+its2.toArray.size≤sizeLine:=by rw[List.size_toArray,List.size_toArray];omega
 have hlong:¬(!its.toArray.isEmpty&&Builtin.List.listTooLong (its.toArray.size+its2.toArray.size))=true:=by
  rw[Ob hsz,Bool.and_false];exact Bool.false_ne_true
 refine call_meets F.slot_list_extend ⟨_,e,rfl⟩ F.entry_list_extend (F.args_list_extend_2 _ _)
  (AutoSeq1.list_extend_list_list_0 l its.toArray n b its2.toArray n2 hlong (by rw[List.size_toArray];omega) (by omega)) ⟨e,e2,?_⟩
 refine⟨.non,_,I.P6 (its':=its++its2) hH e (by simp) (r.append r2) ?_,rfl,q⟩;rw[List.length_append];omega
noncomputable def RU:V→List V→Hp→VK→Prop:=fun x vs H Q=>∃ l xs y,x=.ref l∧vs=[]∧H l=some (.lst xs)∧xs[xs.length-1]?=some y∧Q y (upd H l (.lst xs.dropLast))
theorem Oy:Sk X "list.pop" RU:=by
 intro pins s σ H x vs v us Q I rx rv h;obtain⟨l,xs,y,rfl,rfl,hH,hy,q⟩:=h;cases rx;have hus:=rv.zero;subst hus;obtain⟨z,its,n,r,hl,e⟩:=I.MX hH;obtain⟨u,hu,ru⟩:=r.get hy;have hy':its.toArray[its.toArray.size-1]?=some u:=by
  show its.toArray[its.length-1]?=some u;rw[←Array.getElem?_toList,←hl];exact hu
 refine call_meets F.slot_list_pop ⟨_,e,rfl⟩ F.entry_list_pop (F.args_list_pop_1 _) (MeetsSeq.list_pop_last l its.toArray n u hy' (by rw[List.size_toArray];omega)) ⟨e,?_⟩;refine⟨y,_,I.P6 (its':=its.dropLast) hH e ?_ r.dropLast ?_,ru,q⟩
 ·show its.toArray.eraseIdxIfInBounds (its.toArray.size-1)=its.dropLast.toArray;rw[List.size_toArray,List.eraseIdxIfInBounds_toArray,JZ]
 ·rw[List.length_dropLast];omega
noncomputable def RZ:R2:=fun x y H Q=>∃ l b xs zs,x=.ref l∧y=.ref b∧H l=some (.lst xs)∧H b=some (.lst zs)∧xs.length+zs.length≤sizeLine∧∀ p,H p=none→Q (.ref p) (upd H p (.lst (xs++zs)))
theorem om:MP X (binaryOp .Add) RZ:=by
 intro pins s σ H x y v u Q I rx ry h;obtain⟨l,b,xs,zs,rfl,rfl,hH,hB,hz,q⟩:=h;cases rx;cases ry;obtain⟨z,its,n,r,hl,e⟩:=I.MX hH;obtain⟨z2,its2,n2,r2,hl2,e2⟩:=I.MX hB;refine PySem.P.add_list e e2 ?_ (by rw[List.size_toArray,List.size_toArray];omega);have ea:its.toArray++its2.toArray=(its++its2).toArray:=by simp
 rw[ea];exact⟨.ref _,_,I.R5 (t':=s.toks) (r.append r2) (by rw[List.length_append];omega),rfl,q _ I.fresh⟩
end
section
variable{prog:Program}{w:World}{A:Around}{E:Value→Shared→Prop}{s:Shared}
end
section
variable{X:Cx}
end
end L2
namespace L2
open PySem PySem.Spec PyProof.Rows
theorem Vals.ints:∀{ns:List Int}{us:List Value},Vals (ns.map V.int) us→IntsAre us ns
 |[],us,h=>by
  rw[List.map_nil]at h;cases h;exact IntsAre.nil
 |n::ns,us,h=>by
  rw[List.map_cons]at h
  cases h with
  |cons r t=>
   obtain⟨k,rfl⟩:=r;exact IntsAre.cons n k (Vals.ints t)
theorem Hl:∀{us:List Value}{ns:List Int},IntsAre us ns→Vals (ns.map V.int) us
 |_,_,.nil=>by rw[List.map_nil];exact Paired.nil
 |_,_,.cons n t h=>by rw[List.map_cons];exact Paired.cons (show RelV (V.int n) (Value.int n t) from⟨t,rfl⟩) (Hl h)
theorem Vals.Tf:∀{bs:List Bool}{us:List Value},Vals (bs.map V.bl) us→us=bs.map Value.bool
 |[],us,h=>by
  rw[List.map_nil]at h;cases h;rfl
 |b::bs,us,h=>by
  rw[List.map_cons]at h
  cases h with
  |cons r t=>
   cases r;rw[Vals.Tf t,List.map_cons]
theorem Vals.QV{a:Addr}{us:List Value}(r:Vals [V.ref a] us):us=[Value.ref a]:=by
 cases r with
 |cons r t=>
  cases t;cases r;rfl
section
variable{prog:Program}{w:World}{A:Around}{E:Value→Shared→Prop}{s:Shared}{l:Addr}{its:List Value}{ns:List Int}{Q:Value→Shared→Prop}
theorem OI(hh:A.handled=none)(hl:s.heap.IsList l its.toArray)(hi:IntsAre its ns)
  (h:∀ h' tk t',(∀ b o,s.heap.get? b=some o→h'.get? b=some o)→Q (.int ns.sum t') { s with heap:=h',toks:=tk }):wpAny (model prog w) A (call (.builtin "sum") [.ref l]) Q E s:=by
 obtain⟨xs,e⟩:=hi.allInts.items;have hn:numsOf (intItems xs).toList=ns:=by rw[←e];exact hi.numsOf
 rw[nums_intItems]at hn;rw[e]at hl;refine PySem.sum_intListG hh hl fun h' tk t' hk=>?_
 have:=h h' tk t' hk;rw[preSum_eq,List.take_of_length_le (by simp),hn];exact this
end
section
variable{X:Cx}
noncomputable def R4(K:PySem.W.Frag):List V→Hp→VK→Prop:=fun vs H Q=>∃(a:Addr)(ns:List Int),vs=[V.ref a]∧bD K H a (ns.map V.int)∧Q (.int ns.sum) H
theorem P0(hc:X.calm=true):zD X (.builtin "sum") (R4 X.K):=by
 intro pins s σ H vs us Q I r h;obtain⟨a,ns,rfl,hs,q⟩:=h;obtain⟨its,rv,hl,_⟩:=I.list hs;rw[Vals.QV r];exact OI (I.ok.hd hc) hl.isList rv.ints fun h' tk t' hk=>⟨.int _,H,I.kept hk,⟨_,rfl⟩,q⟩
end
section
variable{X:Cx}
noncomputable def P4(K:PySem.W.Frag):V→List V→Hp→VK→Prop:=fun x xs H Q=>∃(a:Addr)(ys:List V)(y:V)(j:Nat)(z:V),x=V.ref a∧xs=[y]∧bD K H a ys∧sW y=true∧ys.all sW=true∧ys[j]?=some z∧OA z y=true∧
 (∀(m:Nat)(z':V),m<j→ys[m]?=some z'→OA z' y=false)∧Q (.int (j:Nat)) H
theorem Lx{ys:List V}(f:ys.all sW=true){j:Nat}{z:V}(h:ys[j]?=some z):sW z=true:=List.all_eq_true.mp f z (List.mem_of_getElem? h)
theorem Nd:Q4 X "list.index" (P4 X.K):=by
 intro pins s σ H x xs v us Q I rx rxs h;obtain⟨a,ys,y,j,z,rfl,rfl,hs,fy,fys,hz,hzj,hno,q⟩:=h;cases rx
 cases rxs with
 |cons ry rt=>
  rename_i uy ut;cases rt;obtain⟨its,rv,⟨⟨cls,dd,data,sl⟩,n,ho,hc,hdn,hd⟩,hlen⟩:=I.list hs
  simp only at hc hd
  subst hc hd;obtain⟨u,hu,ru⟩:=rv.get hz;obtain⟨hjl,hje⟩:=List.getElem?_eq_some_iff.mp hu;have hvl:=rv.length;have hj:j<its.toArray.size:=by simpa using hjl
  have hsl:=sizeLine_eq;refine call_meets PySem.F.slot_list_index ⟨_,ho,rfl⟩ PySem.F.entry_list_index (PySem.F.args_list_index_2 _ _)
   (SeqAt.list_indexAt a its.toArray n dd sl uy (JQ y) j hj (by omega) ?_ ?_) ⟨ho,fun u' hu'=>tj ry fy rv fys u' (by simpa using hu'),?_⟩
  ·have e1:its.toArray[j]=u:=by simpa using hje
   rw[e1,GN ru (Lx fys hz)];exact hzj
  ·intro m hm hmj;have hml:m<its.length:=by simpa using hm
   have hmy:m<ys.length:=by omega
   have hy':ys[m]?=some ys[m]:=List.getElem?_eq_getElem hmy;obtain⟨u2,hu2,ru2⟩:=rv.get hy';obtain⟨_,hme⟩:=List.getElem?_eq_some_iff.mp hu2;have e1:its.toArray[m]=u2:=by simpa using hme
   rw[e1,GN ru2 (Lx fys hy')];exact hno m _ hmj hy'
  ·exact⟨.int (j:Nat),H,I.tok _,⟨_,rfl⟩,q⟩
end
section
variable{X:Cx}
end
theorem M8{prog:Program}{w:World}{A:Around}{E:Value→Shared→Prop}{s:Shared}{l:Addr}{items:Array Value}{Q:Value→Shared→Prop}(hl:s.heap.IsList l items)
  (h:∀ s₂:Shared,s₂={ s with heap:=s.heap.push { cls:=.type "list_iterator",data:=.fields #[.ref l,.int 0 0] } }→
   (s₂.heap.IsListIter s.heap.objs.size l 0∧s₂.heap.IsList l items)→l≠s.heap.objs.size→Q (.ref s.heap.objs.size) s₂):wpAny (model prog w) A (pyIter (.ref l)) Q E s:=by
 have hlt:l<s.heap.objs.size:=by obtain⟨_,e,_⟩:=hl;exact Heap.lt_size e
 exact wpAny_pyIter_list hl (h _ rfl ⟨⟨_,Heap.get?_push_size _ rfl,rfl,rfl⟩,hl.push _⟩ (Nat.ne_of_lt hlt))
theorem IC{prog:Program}{w:World}{A:Around}{bs:List Bool}{its:List Value}(e:its=bs.map Value.bool) :
  TruthOf prog w A (fun i v=>its.toArray[i]?=some v) (fun i=>bs.getD i false):=fun i v s Q E hv hq=>by
 have hv':its[i]?=some v:=by simpa using hv
 rw[e,List.getElem?_map]at hv';obtain⟨b,hb,rfl⟩:=Option.map_eq_some_iff.mp hv';have hg:bs.getD i false=b:=by rw[List.getD_eq_getElem?_getD,hb]<;>rfl
 have hq':Q (bs.getD i false) s:=hq;rw[hg]at hq';exact wpAny_truthy_bool hq'
theorem any_range:∀ bs:List Bool,(List.range bs.length).any (fun i=>bs.getD i false)=bs.any id
 |[]=>rfl
 |b::bs=>by
  rw[List.length_cons,List.range_succ_eq_map,List.any_cons,List.any_map,List.any_cons,←any_range bs]
  all_goals rfl
section
variable{X:Cx}
noncomputable def R8(K:PySem.W.Frag):List V→Hp→VK→Prop:=fun vs H Q=>∃(a:Addr)(bs:List Bool),vs=[V.ref a]∧bD K H a (bs.map V.bl)∧Q (.bl (bs.any id)) H
theorem QO(hc:X.calm=true):zD X (.builtin "any") (R8 X.K):=by
 intro pins s σ H vs us Q I r h;obtain⟨a,bs,rfl,hs,q⟩:=h;obtain⟨its,rv,hl,_⟩:=I.list hs;rw[Vals.QV r];have hb:=rv.Tf;refine call_any_walk (M8 hl.isList fun s₂ e2 st hne=>?_);subst e2;refine⟨_,_,_,_,_,_,_,rfl,Walks.list (A:=X.A.in1) (I.ok.hd hc) _ a hne its.toArray,st,IC hb,fun h' tk hk=>?_⟩;refine⟨.bl _,H,I.kept fun b o eo=>hk b o (fun hmem=>?_) (Heap.get?_push_of_some _ eo),?_,q⟩
 ·rcases List.mem_cons.mp hmem with e1|hmem
  ·exact absurd (e1 ▸ Heap.lt_size eo) (Nat.lt_irrefl _)
  ·cases hmem
 ·show Value.bool _=Value.bool _;rw[←any_range,hb,List.size_toArray,List.length_map]
end
section
variable{X:Cx}{pins:List (Addr×Obj)}{σ:St}{H:Hp}{s:Shared}
end
section
variable{X:Cx}
end
end L2
namespace L2
open PySem PySem.Spec PyProof.Rows
abbrev Oe(h:Heap)(c:Addr)(v:Option Value):Prop:=h.IsCell c v
noncomputable def Se(scope sc:Scope):Scope:=
 { scope with names:=scope.names.map fun(n,k)=>if(k == .free&&sc.kind == .function&&sc.names.lookup n==some .cell)then(n,.cell)else(n,k) }
noncomputable def dN(cells:List (Str×Addr)):List (Str×NameKind)→List (Str×Addr)→List (Str×Addr)
 |[],acc=>acc
 | (n,k)::r,acc=>if k == .free then dN cells r ((n,(cells.lookup n).getD 0)::acc)else dN cells r acc
theorem zT(env:Env)(f:Str×NameKind→List (Str×Addr)→Sem (ForInStep (List (Str×Addr))))
  (hf:∀ n k c,f (n,k) c=if k == .free then(do let a ←cellOf env n;pure (.yield ((n,a)::c)))else pure (.yield c)) :
  ∀(names:List (Str×NameKind))(acc:List (Str×Addr)),(∀ y∈names,y.2=.free→∃ c,env.cells.lookup y.1=some c)→forIn names acc f=pure (dN env.cells names acc)
 |[],acc,_=>by rw[List.forIn_nil];rfl
 | (n,k)::r,acc,h=>by
  rw[List.forIn_cons,hf];have ih:=fun acc=>zT env f hf r acc fun y hy=>h y (List.mem_cons_of_mem _ hy)
  unfold dN;by_cases hk:(k==NameKind.free)=true
  ·rw[if_pos hk,if_pos hk];obtain⟨c,hc⟩:=h (n,k) List.mem_cons_self (by simpa using hk);have e:cellOf env n=pure c:=by unfold cellOf;rw[hc]
   rw[e];have e2:(env.cells.lookup n).getD 0=c:=by rw[hc];rfl
   rw[e2];exact ih _
  ·rw[if_neg hk,if_neg hk];exact ih _
theorem KZ{scope:Scope}{env:Env}(h:∀ y∈scope.names,y.2=.free→∃ c,env.cells.lookup y.1=some c):closureFor scope env=pure (dN env.cells scope.names []):=by
 simp only[closureFor];rw[zT env _ (fun n k c=>rfl) scope.names [] h];rfl
theorem mem_lookup{α:Type}:∀{l:List (Str×α)}{n:Str}{c:α},(n,c)∈l→∃ c',l.lookup n=some c'
 | (k,v)::r,n,c,h=>by
  rw[List.lookup_cons]
  cases hb:n==k with
  |true=>exact⟨_,rfl⟩
  |false=>
   rcases List.mem_cons.mp h with e|h
   ·cases e;simp at hb
   ·exact mem_lookup h
theorem qS{cells:List (Str×Addr)}:∀{names:List (Str×NameKind)}{acc:List (Str×Addr)}{n:Str}{c:Addr},(n,c)∈dN cells names acc→(n,c)∈acc∨((n,.free)∈names∧c=(cells.lookup n).getD 0)
 |[],_,_,_,h=>.inl h
 | (m,k)::r,acc,n,c,h=>by
  unfold dN at h
  split at h
  ·rename_i hk;have hk:k=.free:=by simpa using hk
   rcases qS h with h|⟨h1,h2⟩
   ·rcases List.mem_cons.mp h with e|h
    ·cases e;exact .inr ⟨hk ▸ List.mem_cons_self,rfl⟩
    ·exact .inl h
   ·exact .inr ⟨List.mem_cons_of_mem _ h1,h2⟩
  ·rcases qS h with h|⟨h1,h2⟩
   ·exact .inl h
   ·exact .inr ⟨List.mem_cons_of_mem _ h1,h2⟩
theorem vU{cells:List (Str×Addr)}:∀{names:List (Str×NameKind)}{acc:List (Str×Addr)}{p:Str×Addr},p∈acc→p∈dN cells names acc
 |[],_,_,h=>h
 | (m,k)::r,acc,p,h=>by
  unfold dN;split
  ·exact vU (List.mem_cons_of_mem _ h)
  ·exact vU h
theorem vZ{cells:List (Str×Addr)}:∀{names:List (Str×NameKind)}{acc:List (Str×Addr)}{n:Str},(n,.free)∈names→(n,(cells.lookup n).getD 0)∈dN cells names acc
 | (m,k)::r,acc,n,h=>by
  unfold dN;rcases List.mem_cons.mp h with e|h
  ·cases e;exact vU List.mem_cons_self
  ·split
   ·exact vZ h
   ·exact vZ h
theorem sV:∀{names:List (Str×NameKind)}{h:Heap}{acc:List (Str×Addr)}{x:Str}{c:Addr},(x,c)∈cellsFrom h.objs.size names acc→
  (x,c)∈acc∨((x,.cell)∈names∧h.objs.size≤c∧Oe (pushCells h names) c none)
 |[],_,_,_,_,h=>.inl h
 | (n,k)::r,h,acc,x,c,hm=>by
  unfold cellsFrom at hm;unfold pushCells
  split at hm
  ·rename_i hk;rw[if_pos hk];have hk:k=.cell:=by simpa using hk
   rw[←Heap.size_push h { cls:=.type "cell",data:=.cell none }]at hm
   rcases sV hm with hm|⟨h1,h2,h3⟩
   ·rcases List.mem_cons.mp hm with e|hm
    ·cases e;exact .inr ⟨hk ▸ List.mem_cons_self,Nat.le_refl _,_,pushCells_keeps r _ _ _ (Heap.get?_push_size _ rfl),rfl⟩
    ·exact .inl hm
   ·rw[Heap.size_push]at h2;exact .inr ⟨List.mem_cons_of_mem _ h1,Nat.le_of_succ_le h2,h3⟩
  ·rename_i hk;rw[if_neg hk];rcases sV hm with hm|⟨h1,h2,h3⟩
   ·exact .inl hm
   ·exact .inr ⟨List.mem_cons_of_mem _ h1,h2,h3⟩
theorem xI:∀{names:List (Str×NameKind)}{n:Nat}{acc:List (Str×Addr)}{p:Str×Addr},p∈acc→p∈cellsFrom n names acc
 |[],_,_,_,h=>h
 | (m,k)::r,n,acc,p,h=>by
  unfold cellsFrom;split
  ·exact xI (List.mem_cons_of_mem _ h)
  ·exact xI h
theorem Bk:∀{names:List (Str×NameKind)}{n:Nat}{acc:List (Str×Addr)}{x:Str},(x,.cell)∈names→∃ c,(x,c)∈cellsFrom n names acc
 | (m,k)::r,n,acc,x,h=>by
  unfold cellsFrom;rcases List.mem_cons.mp h with e|h
  ·cases e;exact⟨n,xI List.mem_cons_self⟩
  ·split
   ·exact Bk h
   ·exact Bk h
theorem BH:∀{names:List (Str×NameKind)}{h:Heap}{acc:List (Str×Addr)}{x y:Str}{c:Addr},(∀ p∈acc,p.2<h.objs.size)→(∀ x y c,(x,c)∈acc→(y,c)∈acc→x=y)→
  (x,c)∈cellsFrom h.objs.size names acc→(y,c)∈cellsFrom h.objs.size names acc→x=y
 |[],_,_,_,_,_,_,hi,h1,h2=>hi _ _ _ h1 h2
 | (n,k)::r,h,acc,x,y,c,hl,hi,h1,h2=>by
  unfold cellsFrom at h1 h2
  split at h1
  ·rename_i hk;rw[if_pos hk]at h2;rw[←Heap.size_push h { cls:=.type "cell",data:=.cell none }]at h1 h2
   refine BH (h:=h.push _) (fun p hp=>?_) (fun x y c a b=>?_) h1 h2
   ·rw[Heap.size_push];rcases List.mem_cons.mp hp with rfl|hp
    ·exact Nat.lt_succ_self _
    ·exact Nat.lt_succ_of_lt (hl p hp)
   ·rcases List.mem_cons.mp a with e|a<;>rcases List.mem_cons.mp b with e'|b
    ·cases e;cases e';rfl
    ·cases e;exact absurd (hl _ b) (Nat.lt_irrefl _)
    ·cases e';exact absurd (hl _ a) (Nat.lt_irrefl _)
    ·exact hi _ _ _ a b
  ·rename_i hk;rw[if_neg hk]at h2;exact BH hl hi h1 h2
theorem II{M:Model}{A:Around}{E:Value→Shared→Prop}{s:Shared}{scope:Scope}{globals:Addr}{closure:List (Str×Addr)}{qual:Str}{func:Option Addr}{code:Value}{around:Env}{builtins:Addr}{Q:Env→Shared→Prop}
  (h:Q (newEnv scope s.heap.objs.size globals (cellsFrom (s.heap.objs.size+1) scope.names closure) qual func code (some around) builtins)
   { s with heap:=pushCells (s.heap.push { cls:=.type "dict",data:=.dict #[] }) scope.names }) :
  wpAny M A (newFunctionEnv scope globals closure [] qual func code (some around) builtins) Q E s:=by
 simp only[newFunctionEnv,Option.isSome_some,if_true];refine wpAny_bind (wpAny_alloc ?_);refine wpAny_bind (wpAny_layCells _ (fun n k c=>rfl) scope.names closure _ _ ?_);rw[show({ s with heap:=s.heap.push { cls:=.type "dict",data:=.dict #[] } }:Shared).heap.objs.size=s.heap.objs.size+1 from Heap.size_push ..]
 rw[List.forIn_nil];exact wpAny_bind (wpAny_pure (wpAny_pure h))
theorem xy{sc:Scope}:∀{names:List (Str×NameKind)}{x:Str}{k:NameKind},
  (names.map fun(n,k)=>if(k==NameKind.free&&sc.kind == .function&&sc.names.lookup n==some .cell)then(n,NameKind.cell)else(n,k)).lookup x=some k→
  ∃ k',names.lookup x=some k'∧(k=k'∨(k'=.free∧k=.cell))
 |[],_,_,h=>by simp at h
 | (n,k₀)::r,x,k,h=>by
  have ih:=@xy sc r x k;have h':List.lookup x ((if(k₀==NameKind.free&&sc.kind == .function&&sc.names.lookup n==some .cell)=true then(n,NameKind.cell)else(n,k₀))::(r.map _))=some k:=h
  cases hx:x==n with
  |true=>
   simp only[List.lookup_cons,hx];by_cases hc:(k₀==NameKind.free&&sc.kind == .function&&sc.names.lookup n==some .cell)=true
   ·rw[if_pos hc]at h';simp only[List.lookup_cons,hx]at h'
    cases h'
    simp only[Bool.and_eq_true,beq_iff_eq]at hc;exact⟨k₀,rfl,.inr ⟨hc.1.1,rfl⟩⟩
   ·rw[if_neg hc]at h';simp only[List.lookup_cons,hx]at h'
    cases h'
    exact⟨_,rfl,.inl rfl⟩
  |false=>
   simp only[List.lookup_cons,hx];by_cases hc:(k₀==NameKind.free&&sc.kind == .function&&sc.names.lookup n==some .cell)=true
   ·rw[if_pos hc]at h';simp only[List.lookup_cons,hx]at h';exact ih h'
   ·rw[if_neg hc]at h';simp only[List.lookup_cons,hx]at h';exact ih h'
structure JO(N:List Str)(sc scope:Scope)(own:List (Str×Nat)):Prop where
 kind:scope.kind=.function
 uniq:∀ y∈scope.names,scope.names.lookup y.1=some y.2
 ix:∀ p∈own,N[p.2]?=some p.1
 free:∀ y∈scope.names,y.2=.free→sc.names.lookup y.1=some .cell∨sc.names.lookup y.1=some .free
 own:∀ y∈scope.names,y.2=.local∨y.2=.cell→y.1∈own.map (·.1)∨y.1 ∉ N
noncomputable def wipe(σ:St):List Nat→St
 |[]=>σ
 |v::vs=>(wipe σ vs).set v none
theorem wk(σ:St):∀ vs:List Nat,(wipe σ vs).length=σ.length
 |[]=>rfl
 |v::vs=>by unfold wipe;rw[List.length_set,wk σ vs]
theorem AK{σ:St}{i:Nat}{x:V}:∀{vs:List Nat},(wipe σ vs)[i]?=some (some x)→σ[i]?=some (some x)∧i ∉ vs
 |[],h=>⟨h,by simp⟩
 |v::vs,h=>by
  unfold wipe at h;by_cases hi:v=i
  ·subst hi;by_cases hv:v<(wipe σ vs).length
   ·rw[List.getElem?_set_self hv]at h;cases h
   ·rw[List.getElem?_eq_none (by simpa using hv)]at h;cases h
  ·rw[List.getElem?_set_ne hi]at h;obtain⟨h1,h2⟩:=AK h;exact⟨h1,by simp only[List.mem_cons,not_or];exact⟨fun e=>hi e.symm,h2⟩⟩
noncomputable abbrev Cx.GQ(X:Cx)(s:Shared)(H:Hp)(scope:Scope)(cenv:Env)(fp:List Addr):Cx:={ X with s₀:=s,H₀:=H,env:=cenv,outer:=X.stack,ex:=fp,fn:=fun x=>scope.names.lookup x==some .cell,pn:=[],xe:=fun _ _=>False }
section
variable{X:Cx}{pins:List (Addr×Obj)}{σ:St}{H:Hp}{s:Shared}
theorem Jg{scope:Scope}{own:List (Str×Nat)}{fp:List Addr}(I:Inv X pins σ H s)(ok:JO X.N X.env.scope scope own)(hN:X.N.Nodup)(hfp:∀ b∈fp,F6 X pins H b∧b<s.heap.objs.size) :
  Inv (X.GQ s H scope (compEnvC scope (cellsFrom (s.heap.objs.size+1) scope.names (dN X.env.cells scope.names [])) s.heap.objs.size X.env) fp) [] (wipe σ (own.map (·.2))) H { s with heap:=pushCells (s.heap.push { cls:=.type "dict",data:=.dict #[] }) scope.names }:=by
 have hfree:∀ y∈scope.names,y.2=.free→∃ c,X.env.cells.lookup y.1=some c:=fun y hy e=>by
  rcases ok.free y hy e with k|k
  ·exact I.ok.has _ (.inl k)
  ·exact I.ok.has _ (.inr k)
 generalize hcenv:compEnvC scope (cellsFrom (s.heap.objs.size+1) scope.names (dN X.env.cells scope.names [])) s.heap.objs.size X.env=cenv
 have kp:∀ b o,s.heap.get? b=some o→(pushCells (s.heap.push { cls:=.type "dict",data:=.dict #[] }) scope.names).get? b=some o:=fun b o e=>pushCells_keeps _ _ _ _ (Heap.get?_push_of_some _ e)
 have hL:cenv.locals=s.heap.objs.size:=by rw[←hcenv];rfl
 have hcl:cenv.cells=cellsFrom (s.heap.objs.size+1) scope.names (dN X.env.cells scope.names []):=by rw[←hcenv];rfl
 have hsc:cenv.scope=Se scope X.env.scope:=by rw[←hcenv];rfl
 rw[←Heap.size_push s.heap { cls:=.type "dict",data:=.dict #[] }]at hcl
 have cm:∀{y c},(y,c)∈dN X.env.cells scope.names []→X.env.cells.lookup y=some c∧c<s.heap.objs.size:=fun{y c} hm=>by
  rcases qS hm with hm|⟨h1,rfl⟩
  ·cases hm
  ·obtain⟨c,hc⟩:=hfree _ h1 rfl;rw[hc];obtain⟨w,z⟩:=I.cell _ _ hc;exact⟨rfl,z.lt⟩
 have mem:∀{y c},cenv.cells.lookup y=some c→(X.env.cells.lookup y=some c∧c<s.heap.objs.size)∨(s.heap.objs.size+1≤c∧Oe (pushCells (s.heap.push { cls:=.type "dict",data:=.dict #[] }) scope.names) c none):=fun{y c} e=>by
  rw[hcl]at e;rcases sV (PySem.mem_of_lookup e)with hm|⟨_,h2,h3⟩
  ·exact .inl (cm hm)
  ·rw[Heap.size_push]at h2;exact .inr ⟨h2,h3⟩
 have look:∀{y},scope.names.lookup y=some .free→∃ c,cenv.cells.lookup y=some c∧X.env.cells.lookup y=some c:=fun{y} hl=>by
  have hy:(y,NameKind.free)∈scope.names:=PySem.mem_of_lookup hl;obtain⟨c',e'⟩:=mem_lookup (xI (names:=scope.names) (n:=(s.heap.push { cls:=.type "dict",data:=.dict #[] }).objs.size) (vZ (cells:=X.env.cells) (acc:=[]) hy))
  rw[←hcl]at e';refine⟨c',e',?_⟩;rw[hcl]at e';rcases sV (PySem.mem_of_lookup e')with hm|⟨h1,_,_⟩
  ·exact (cm hm).1
  ·have:=ok.uniq _ h1;rw[hl]at this;cases this
 have okB:(X.GQ s H scope cenv fp).Ok:=by
  refine⟨I.ok.mod,by show cenv.scope.kind=_;rw[hsc];exact ok.kind,by show cenv.globals=_;rw[←hcenv];exact I.ok.glob,by show cenv.builtins=_;rw[←hcenv];exact I.ok.blt,by show s.heap.objs.size≤cenv.locals;rw[hL];exact Nat.le_refl _,
   fun y z c e1 e2=>?_,fun y hy=>?_,fun y c z e=>?_,I.ok.hd,I.ok.frames,.inl rfl,fun b hb=>⟨?_,fun y c e z=>?_⟩,I.bs,Nat.le_trans I.ok.Oz I.sz,fun b o e hb=>?_,fun b hb z=>?_,I.stack,I.LR⟩
  ·have e1:cenv.cells.lookup y=some c:=e1;have e2:cenv.cells.lookup z=some c:=e2;rw[hcl]at e1 e2;refine BH (fun p hp=>?_) (fun y z c a b=>I.ok.inj y z c (cm a).1 (cm b).1) (PySem.mem_of_lookup e1) (PySem.mem_of_lookup e2);rw[Heap.size_push];exact Nat.lt_succ_of_lt (cm (y:=p.1) (c:=p.2) hp).2
  ·show ∃ c,cenv.cells.lookup y=some c
   have key:∀ k,cenv.kindOf y=some k→(k=.cell∨k=.free)→∃ c,cenv.cells.lookup y=some c:=fun k hk hk'=>by
    unfold Env.kindOf at hk;rw[hsc]at hk;obtain⟨k',e,r⟩:=xy hk;have:k'=.cell∨k'=.free:=by
     rcases r with rfl|⟨rfl,_⟩
     ·exact hk'
     ·exact .inr rfl
    rcases this with rfl|rfl
    ·obtain⟨c,hm⟩:=Bk (n:=(s.heap.push { cls:=.type "dict",data:=.dict #[] }).objs.size) (acc:=dN X.env.cells scope.names []) (PySem.mem_of_lookup e)
     obtain⟨c',e'⟩:=mem_lookup hm;exact⟨c',by rw[hcl];exact e'⟩
    ·obtain⟨c,h1,_⟩:=look e;exact⟨c,h1⟩
   rcases hy with hy|hy
   ·exact key _ hy (.inl rfl)
   ·exact key _ hy (.inr rfl)
  ·have z:(scope.names.lookup y==some NameKind.cell)=true:=z;have z:scope.names.lookup y=some .cell:=by simpa using z
   have e:cenv.cells.lookup y=some c:=e;rw[hcl]at e;rcases sV (PySem.mem_of_lookup e)with hm|⟨_,h2,_⟩
   ·rcases qS hm with hm|⟨h1,_⟩
    ·cases hm
    ·have q:=ok.uniq _ h1;rw[z]at q;cases q
   ·rw[Heap.size_push]at h2;exact Nat.le_of_succ_le h2
  ·show b≠cenv.locals;rw[hL];exact Nat.ne_of_lt (hfp b hb).2
  ·have e:cenv.cells.lookup y=some c:=e;rcases mem e with⟨h1,_⟩|⟨h1,_⟩
   ·exact (hfp b hb).1.2.2.2.2.1 y c h1 z
   ·have h2:s.heap.objs.size+1≤b:=by rw[←z];exact h1
    exact absurd (Nat.lt_of_lt_of_le (hfp b hb).2 (Nat.le_of_succ_le h2)) (Nat.lt_irrefl _)
  ·rcases(hfp b hb).1.2.2.2.1 with z|z
   ·exact I.ok.NA b o e z
   ·exact absurd (Nat.lt_of_lt_of_le (Heap.lt_size e) (Nat.le_trans I.ok.Oz z)) (Nat.lt_irrefl _)
  ·rcases List.mem_cons.mp (I.Lr b z)with z|z
   ·exact (hfp b hb).1.2.1 z
   ·exact (hfp b hb).1.2.2.1 z
 refine⟨okB,rfl,I.bare,Un.kept kp,⟨fun _=>none,?_,fun i y av e1 e2 e3=>?_⟩,fun y c e=>?_,?_,fun y c e=>?_,fun p hp=>?_,I.fD.kept kp,by rw[wk];exact I.len⟩
 ·show Heap.Ns _ cenv.locals _;rw[hL];exact Heap.Ns.keeps (Heap.Ns.new ..) fun b o e=>pushCells_keeps _ _ _ _ e
 ·obtain⟨e2,hne⟩:=AK e2;have hfr:scope.names.lookup y=some .free∧(cenv.kindOf y=some .cell∨cenv.kindOf y=some .free):=by
   have key:∀ k,cenv.scope.names.lookup y=some k→k=.local∨k=.cell∨k=.free→scope.names.lookup y=some .free∧(cenv.kindOf y=some .cell∨cenv.kindOf y=some .free):=fun k hk hk'=>by
    have hk0:=hk;rw[hsc]at hk;obtain⟨k',e,r⟩:=xy hk;have no:¬(k'=.local∨k'=.cell):=fun hh=>by
     rcases ok.own _ (PySem.mem_of_lookup e) hh with e'|e'
     ·obtain⟨p,hp,hpy⟩:=List.mem_map.mp e';have e3:=ok.ix p hp;have:p.1=y:=hpy;rw[this]at e3;exact hne (List.mem_map.mpr ⟨p,hp,Ea hN e3 e1⟩)
     ·exact e' (List.mem_of_getElem? e1)
    rcases r with rfl|⟨rfl,rfl⟩
    ·rcases hk' with rfl|rfl|rfl
     ·exact absurd (.inl rfl) no
     ·exact absurd (.inr rfl) no
     ·exact⟨e,.inr hk0⟩
    ·exact⟨e,.inl hk0⟩
   have e3:QU cenv.scope y:=e3;rcases e3 with e3|e3|e3
   ·exact key _ e3 (.inl rfl)
   ·exact key _ e3 (.inr (.inl rfl))
   ·exact key _ e3 (.inr (.inr rfl))
  obtain⟨m,hn,hl⟩:=I.loc;have hvis:QU X.env.scope y:=(ok.free _ (PySem.mem_of_lookup hfr.1) rfl).elim (fun k=>.inr (.inl k)) (fun k=>.inr (.inr k));obtain⟨w,r,q⟩:=hl i y av e1 e2 hvis;refine⟨w,r,.inr ⟨hfr.2,?_⟩⟩;obtain⟨c,h1,h2⟩:=look hfr.1;rcases q with⟨k,_⟩|⟨_,c',e',z⟩
  ·have k:X.env.scope.names.lookup y=some .local:=k;rcases ok.free _ (PySem.mem_of_lookup hfr.1) rfl with k'|k'<;>rw[show X.env.scope.names.lookup y=_ from k']at k<;>cases k
  ·rw[h2]at e';cases e';exact⟨c,h1,z.keeps kp⟩
 ·have e:cenv.cells.lookup y=some c:=e;rcases mem e with⟨h1,_⟩|⟨_,z⟩
  ·obtain⟨w,z⟩:=I.cell y c h1;exact⟨w,z.keeps kp⟩
  ·exact⟨_,z⟩
 ·show H cenv.locals=none;rw[hL];exact I.fD.fresh (Nat.le_refl _)
 ·have e:cenv.cells.lookup y=some c:=e;rcases mem e with⟨h1,_⟩|⟨h1,_⟩
  ·exact I.xh y c h1
  ·exact I.fD.fresh (Nat.le_of_succ_le h1)
 ·exact absurd (show p∈([]:List (Addr×Obj))++[] from hp) (by simp)
theorem Qj{E:Value→Shared→Prop}{D:Addr}{xs:List V}{y:V}{v:Value}{Q:Value→Shared→Prop}(I:Inv X pins σ H s)(hD:H D=some (.lst xs))(hz:xs.length<sizeLine)(r:RelV y v)
  (h:∀ s',Inv X pins σ (upd H D (.lst (xs++[y]))) s'→Q .none s'):wpAny (model X.prog X.w) X.A (call (.builtin "list.append") [.ref D,v]) Q E s:=by
 obtain⟨hz',its,n,ri,e⟩:=I.fD D _ hD;have hl:=ri.length;refine append_at (hsz:=by rw[List.size_toArray];omega) e fun h' sb ho'=>?_
 refine h { s with heap:=h' } (I.write (t':=s.toks) (by rw[hD];trivial) (.inl rfl) (fun b u hb q=>(sb.2 b hb).trans q) ⟨_,ho'⟩ ⟨by rw[List.length_append];exact hz,its++[v],n+1,ri.append (.cons r .nil),?_⟩);rw[ho'];simp
def Q1(X:Cx)(ifs:List Expr)(t:TT):Prop:=
 ∀(pins:List (Addr×Obj))(s:Shared)(σ:St)(H:Hp)(Q:Bool→Hp→Prop),Inv X pins σ H s→t σ H Q→
  wpAny (model X.prog X.w) X.A (forIn ifs true fun c r=>if r=true then do let ok ←isTrue c X.env (eval c X.env);pure (ForInStep.yield ok)else pure (ForInStep.yield r)) (TP X pins σ Q) X.xe s
noncomputable def SH:TT:=fun _ H Q=>Q true H
theorem xC:Q1 X [] SH:=fun _ _ _ H _ I h=>wpAny_tests_nil ⟨H,I,h⟩
theorem HK{c:Expr}{t:TT}(h:PT X c t):Q1 X [c] t:=fun pins s σ H Q I hw=>wpAny_tests_one (h pins s σ H Q I hw)
end
theorem MH{α:Type}{t:Sem α}{Q Q':α→Shared→Prop}{M:Model}{A:Around}{E:Value→Shared→Prop}{s:Shared}(h:wpAny M A t Q (fun _ _=>False) s)(hQ:∀ a s,Q a s→Q' a s):wpAny M A t Q' E s:=wpAny_mono h hQ fun _ _ z=>False.elim z
theorem Hb{prog:Program}{w:World}{A:Around}{R:Result→Shared→Prop}{s:Shared}{elt target iter:Expr}{ifs:List Expr}{scope:Scope}{pos:Pos}{it acc:Value}{env:Env}(I:Nat→Shared→Prop)
  (turn:∀ n s,I n s→wpAny (model prog w) A (pyNext it) (fun r s₁=>match r with
   |none=>R (.ok .next) s₁
   |some v=>wpAny (model prog w) A (letOwnedTupleGo target it v) (fun _ s₁'=>wpAny (model prog w) A (assign target env v) (fun _ s₂=>
     wpAny (model prog w) A (forIn ifs true fun c r=>if r=true then do let ok ←isTrue c env (eval c env);pure (ForInStep.yield ok)else pure (ForInStep.yield r)) (fun ok s₃=>
      if ok=true then wpAny (model prog w) A (eval elt env) (fun x s₄=>
       wpAny (model prog w) A (call (.builtin "list.append") [acc,x]) (fun _ s₅=>∃ m,m<n∧I m s₅) (notedBy (model prog w) A env fun e s'=>R (.error e) s') s₄) (notedBy (model prog w) A env fun e s'=>R (.error e) s') s₃
      else ∃ m,m<n∧I m s₃) (notedBy (model prog w) A env fun e s'=>R (.error e) s') s₂) (notedBy (model prog w) A env fun e s'=>R (.error e) s') s₁') (notedBy (model prog w) A env fun e s'=>R (.error e) s') s₁) (notedBy (model prog w) A env fun e s'=>R (.error e) s') s)
  (n:Nat) (h:I n s) :
  codeAny (model prog w) A (.compLoop (.ListComp elt [⟨target,iter,ifs,0⟩] scope pos) 0 it acc env) R s:=by
 refine codeAny_loop rfl I (fun n s hI=>?_) n h;show wpAny _ A ((compTurn (.ListComp elt [⟨target,iter,ifs,0⟩] scope pos) 0 it acc env).onRaise (fun x=>do noteFrame x env;theTreesLotGoes x)) _ _ s;refine wpAny_noted ?_;rw[compTurn_list];refine wpAny_bind (wpAny_standAt (wpAny_bind (wpAny_mono (turn n s hI) (fun r s₁ h₁=>?_) fun _ _ h'=>h')))
 cases r with
 |none=>exact wpAny_pure h₁
 |some v=>
  refine wpAny_bind (wpAny_mono h₁ (fun _ s₁' h₁'=>?_) fun _ _ h'=>h');refine wpAny_bind (wpAny_mono h₁' (fun _ s₂ h₂=>wpAny_bind (wpAny_mono h₂ (fun ok s₃ h₃=>?_) fun _ _ h'=>h')) fun _ _ h'=>h')
  cases ok with
  |false=>exact wpAny_pure ⟨rfl,h₃⟩
  |true=>
   exact wpAny_bind (wpAny_bind (wpAny_mono h₃ (fun x s₄ h₄=>wpAny_bind (wpAny_mono h₄ (fun _ s₅ h₅=>wpAny_pure (wpAny_pure ⟨rfl,h₅⟩)) fun _ _ h'=>h')) fun _ _ h'=>h'))
section
variable{X:Cx}
def RM(wi:TI)(g:TG)(tt:TT)(te:TE)(vs:List Nat):TE:=fun σ H Q=>wi σ H fun J H1=>∀ D,H1 D=none→∃ W:Nat→Nat→Hp→Prop,(∃ m,W 0 m (upd H1 D (.lst [])))∧∀ i m H,W i m H→
 (J.stop i H∧Q (.ref D) H)∨(J.go i H∧∃ Nx:Hp→Prop,(∀ H',Nx H'→∃ m',m'<m∧W (i+1) m' H')∧∀ x H',J.Pq i H x H'→g x (wipe σ vs) H' fun σ2 H2=>wipe σ2 vs=wipe σ vs∧tt σ2 H2 fun b H3=>
  if b=true then te σ2 H3 fun y H4=>∃ acc,H4 D=some (.lst acc)∧acc.length<sizeLine∧Nx (upd H4 D (.lst (acc++[y])))else Nx H3)
theorem LM{pins:List (Addr×Obj)}{s:Shared}{σ:St}{H:Hp}{Q:VK}{elt tg iter:Expr}{ifs:List Expr}{scope:Scope}{own:List (Str×Nat)}{pos pos':Pos}{wi:TI}{g:TG}{tt:TT}{te:TE}{use:Option (Value→Sem Unit)}{Qf:Value→Shared→Prop}
  (hc:X.calm=true) (hN:X.N.Nodup) (I:Inv X pins σ H s) (hi:PI X tg iter wi) (ok:JO X.N X.env.scope scope own)
  (hg:∀(s:Shared)(H:Hp)(C:Addr)(cl:List (Str×Addr))(fp:List Addr),PG (X.GQ s H scope (compEnvC scope cl C X.env) fp) tg g) (ht:∀(s:Shared)(H:Hp)(C:Addr)(cl:List (Str×Addr))(fp:List Addr),Q1 (X.GQ s H scope (compEnvC scope cl C X.env) fp) ifs tt)
  (he:∀(s:Shared)(H:Hp)(C:Addr)(cl:List (Str×Addr))(fp:List Addr),PE (X.GQ s H scope (compEnvC scope cl C X.env) fp) elt te) (hs:∀ x,foldedSetIterable iter X.env x=pure x)
  (h:RM wi g tt te (own.map (·.2)) σ H Q)
  (hRR:∀ D C s' m H',Inv X pins σ H' s'→Q (.ref D) H'→s'.heap.Ns C m→F6 X pins H' C→compPost (model X.prog X.w) X.A X.xe use Qf (.ref D) C (.ok .next) s') :
  wpAny (model X.prog X.w) X.A (comprehension (.ListComp elt [⟨tg,iter,ifs,0⟩] scope pos) scope X.env pos' (newList []) false (eval iter X.env) use) Qf X.xe s:=by
 have hfree:∀ y∈scope.names,y.2=.free→∃ c,X.env.cells.lookup y.1=some c:=fun y hy e=>by
  rcases ok.free y hy e with k|k
  ·exact I.ok.has _ (.inl k)
  ·exact I.ok.has _ (.inr k)
 refine wpAny_comprehension_free (use:=use) rfl hs (KZ hfree) ok.kind (fun y hy e=>by rw[ok.uniq y hy,e])
  (gM (hi pins s σ H _ I h) fun xv s1 hx=>gM hx fun itv s2 h2=>?_)
 obtain⟨it,fp,tn,J,H2,e,I2,T,st2,f2,q⟩:=h2;subst e;refine wpAny_newObj_type (II ?_) (by show 0≤sizeLine;decide)
 generalize hD:s2.heap.objs.size=D
 have hDn:H2 D=none:=I2.fD.fresh (Nat.le_of_eq hD);obtain⟨W,⟨m0,w0⟩,turn⟩:=q D hDn
 generalize hs3:({ s2 with heap:=s2.heap.push { cls:=.type "list",data:=.seq ([]:List Value).toArray } }:Shared)=s3
 have I3:Inv X pins σ (upd H2 D (.lst [])) s3:=by
  rw[←hs3];refine I2.laid (t':=s2.toks) (fun b o e=>Heap.get?_push_of_some _ e) (Nat.le_of_eq hD) ⟨Nat.zero_le _,[],0,.nil,?_⟩;rw[←hD];exact Heap.get?_push_size _ rfl
 have h3:s3.heap=s2.heap.push { cls:=.type "list",data:=.seq ([]:List Value).toArray }:=by rw[←hs3]
 have sz:∀ b∈fp,b<s2.heap.objs.size:=fun b hb=>by
  obtain⟨o,e,_⟩:=T.obj _ _ st2 b hb;exact Heap.lt_size e
 have f3:∀ b∈fp,F6 X pins (upd H2 D (.lst [])) b∧b<s3.heap.objs.size:=fun b hb=>by
  have hlt:=sz b hb;refine⟨⟨?_,(f2 b hb).2⟩,by rw[h3,Heap.size_push];exact Nat.lt_succ_of_lt hlt⟩;rw[ax (by rw[←hD];exact Nat.ne_of_lt hlt)];exact (f2 b hb).1
 have st3:tn 0 s3.heap:=T.keep _ _ _ st2 fun b _ o e=>by rw[h3];exact Heap.get?_push_of_some _ e
 have I4:=Jg I3 ok hN f3;have pg:=hg s3 (upd H2 D (.lst [])) s3.heap.objs.size (cellsFrom (s3.heap.objs.size+1) scope.names (dN X.env.cells scope.names [])) fp;have pt:=ht s3 (upd H2 D (.lst [])) s3.heap.objs.size (cellsFrom (s3.heap.objs.size+1) scope.names (dN X.env.cells scope.names [])) fp;have pe:=he s3 (upd H2 D (.lst [])) s3.heap.objs.size (cellsFrom (s3.heap.objs.size+1) scope.names (dN X.env.cells scope.names [])) fp;show codeAny _ _ (.compStart (.ListComp elt [⟨tg,iter,ifs,0⟩] scope pos) 0 (.ref it) (.ref D) (compEnvC scope (cellsFrom (s3.heap.objs.size+1) scope.names (dN X.env.cells scope.names [])) s3.heap.objs.size X.env)) (compPost (model X.prog X.w) X.A X.xe use Qf (.ref D) s3.heap.objs.size) { s3 with heap:=pushCells (s3.heap.push { cls:=.type "dict",data:=.dict #[] }) scope.names }
 have nfp:∀ b∈fp,(upd H2 D (.lst [])) b=none:=fun b hb=>(f3 b hb).1.1
 generalize hce:compEnvC scope (cellsFrom (s3.heap.objs.size+1) scope.names (dN X.env.cells scope.names [])) s3.heap.objs.size X.env=ce at I4 pg pt pe ⊢
 have cL:ce.locals=s3.heap.objs.size:=by subst hce;rfl
 generalize hH3:upd H2 D (.lst [])=H3 at I3 I4 pg pt pe w0 nfp f3
 generalize hs4:({ s3 with heap:=pushCells (s3.heap.push { cls:=.type "dict",data:=.dict #[] }) scope.names }:Shared)=s4 at I4 ⊢
 have st4:tn 0 s4.heap:=T.keep _ _ _ st3 fun b _ o e=>by rw[←hs4];exact pushCells_keeps _ _ _ _ (Heap.get?_push_of_some _ e)
 have stat:∀{σ':St}{H':Hp}{s':Shared},Inv (X.GQ s3 H3 scope ce fp) [] σ' H' s'→(∀ b∈fp,H' b=none)→∀ b∈fp,F6 (X.GQ s3 H3 scope ce fp) [] H' b:=fun{σ' H' s'} I' hn b hb=>
  ⟨hn b hb,(I'.ok.RP b hb).1,I'.ok.NW b hb,.inl hb,fun x c e=>(I'.ok.RP b hb).2 x c e,fun p hp=>absurd (show p∈([]:List (Addr×Obj))++[] from hp) (by simp)⟩
 have loop:codeAny (model X.prog X.w) X.A (.compLoop (.ListComp elt [⟨tg,iter,ifs,0⟩] scope pos) 0 (.ref it) (.ref D) ce) (compPost (model X.prog X.w) X.A X.xe use Qf (.ref D) s3.heap.objs.size) s4:=by
  refine Hb (fun n s'=>∃ i H',Inv (X.GQ s3 H3 scope ce fp) [] (wipe σ (own.map (·.2))) H' s'∧tn i s'.heap∧(∀ b∈fp,H' b=none)∧W i n H') ?_ m0 ⟨0,H3,I4,st4,nfp,w0⟩
  rintro n s5 ⟨i,H5,I5,st5,n5,w5⟩
  rcases turn i n H5 w5 with⟨stop,qq⟩|⟨go,Nx,hNx,step⟩
  ·have td:=T.done (X.GQ s3 H3 scope ce fp) rfl rfl rfl hc i [] s5 _ H5 (fun _ _=>False) I5 (stat I5 n5) st5 stop;refine MH td fun r s6 ⟨hr,I6⟩=>?_
   subst hr;have I7:Inv X pins σ H5 s6:=I3.Q9 (ch:=fp) I6.os I6.base I6.fD I6.bare fun b hb=>⟨(f3 b hb).1.2.2.2.1,(f3 b hb).1.2.1,(f3 b hb).1.2.2.2.2.1,(f3 b hb).1.2.2.2.2.2⟩
   have nC:H5 s3.heap.objs.size=none:=by
    have z:H5 ce.locals=none:=I6.free;rw[cL]at z;exact z
   obtain⟨m,hn,_⟩:=I6.loc;have hn:s6.heap.Ns ce.locals m:=hn;rw[cL]at hn;exact hRR D s3.heap.objs.size s6 m H5 I7 qq hn (I3.Ph (Nat.le_refl _) nC)
  ·have ti:=T.item (X.GQ s3 H3 scope ce fp) rfl rfl rfl hc i [] s5 _ H5 (fun _ _=>False) I5 (stat I5 n5) st5 go;refine MH ti fun r s6 ⟨u,hr,h6⟩=>?_
   subst hr;refine MH h6 fun _ s7 ⟨x,H7,I7,r7,y7,st7,n7⟩=>?_
   have I7':=I7.pinned (stat I7 n7) (T.obj _ _ st7);refine MH (pg _ s7 _ H7 x u _ I7' r7 (step x H7 y7)) fun _ s8 ⟨σ8,H8,I8,hw8,q8⟩=>?_
   refine MH (pt _ s8 σ8 H8 _ I8 q8) fun b s9 ⟨H9,I9,q9⟩=>?_
   have fin:∀{s':Shared}{H':Hp},Inv (X.GQ s3 H3 scope ce fp) ([]++DS fp s7.heap) σ8 H' s'→Nx H'→∃ m,m<n∧∃ i H',Inv (X.GQ s3 H3 scope ce fp) [] (wipe σ (own.map (·.2))) H' s'∧tn i s'.heap∧(∀ b∈fp,H' b=none)∧W i m H':=fun{s' H'} I' nx=>by
    obtain⟨m',hm,w'⟩:=hNx H' nx;have pin':∀ b∈fp,∀ o,s7.heap.get? b=some o→s'.heap.get? b=some o∧H' b=none:=fun b hb o e=>
     let z:=I'.pin (b,o) (List.mem_append_right _ (List.mem_append_right _ (zi hb e)))
     ⟨z.1,z.2.1⟩
    have hl:(wipe σ (own.map (·.2))).length=σ8.length:=by rw[←hw8,wk]
    refine⟨m',hm,i+1,H',(I'.Aw (pins:=[])).weak hl (fun j v e=>?_),T.keep _ _ _ st7 fun b hb o e=>(pin' b hb o e).1,fun b hb=>?_,w'⟩
    ·rw[←hw8]at e;exact (AK e).1
    ·obtain⟨o,e,_⟩:=T.obj _ _ st7 b hb;exact (pin' b hb o e).2
   cases b with
   |false=>
    simp only[Bool.false_eq_true,if_false]at q9 ⊢;exact fin I9 q9
   |true=>
    simp only[if_true]at q9 ⊢;refine MH (pe _ s9 σ8 H9 _ I9 q9) fun z s10 ⟨yv,H10,I10,r10,acc,hD10,hz10,nx⟩=>?_
    exact Qj (X:=X.GQ s3 H3 scope ce fp) I10 hD10 hz10 r10 fun s11 I11=>fin I11 nx
 exact codeAny_compStart_list loop (T.self X.A 0 _ _ _ st4 loop)
theorem B3{elt tg iter:Expr}{ifs:List Expr}{scope:Scope}{own:List (Str×Nat)}{pos:Pos}{wi:TI}{g:TG}{tt:TT}{te:TE}(hc:X.calm=true)(hN:X.N.Nodup)(hi:PI X tg iter wi)(ok:JO X.N X.env.scope scope own)
  (hg:∀(s:Shared)(H:Hp)(C:Addr)(cl:List (Str×Addr))(fp:List Addr),PG (X.GQ s H scope (compEnvC scope cl C X.env) fp) tg g) (ht:∀(s:Shared)(H:Hp)(C:Addr)(cl:List (Str×Addr))(fp:List Addr),Q1 (X.GQ s H scope (compEnvC scope cl C X.env) fp) ifs tt)
  (he:∀(s:Shared)(H:Hp)(C:Addr)(cl:List (Str×Addr))(fp:List Addr),PE (X.GQ s H scope (compEnvC scope cl C X.env) fp) elt te) (hs:∀ x,foldedSetIterable iter X.env x=pure x:=by intro _;rfl) :
  PE X (.ListComp elt [⟨tg,iter,ifs,0⟩] scope pos) (RM wi g tt te (own.map (·.2))):=by
 intro pins s σ H Q I h;rw[eval_ListComp];refine LM hc hN I hi ok hg ht he hs h fun D C s' m H' I' q hn f=>⟨m,hn,fun h'' sb=>?_⟩
 obtain⟨f0,f1,f2,f3,f4,f5⟩:=f;exact⟨.ref D,H',I'.turned (t':=s'.toks) (fun b o hb e=>(sb.2 b hb).trans e) f0 f1 f3 f4 f5,rfl,q⟩
theorem Oq{i:Nat}{y:Str}{py:Pos}{elt tg iter:Expr}{ifs:List Expr}{scope:Scope}{own:List (Str×Nat)}{pos spos:Pos}{wi:TI}{g:TG}{tt:TT}{te:TE}(hc:X.calm=true)(hN:X.N.Nodup)(hy:X.N[i]?=some y)(hyl:X.env.scope.names.lookup y=some .local)
  (hsw:swapsWith (.ListComp elt [⟨tg,iter,ifs,0⟩] scope pos) (some (.Name y py)) spos.line X.env=pure true) (hi:PI X tg iter wi) (ok:JO X.N X.env.scope scope own)
  (hg:∀(s:Shared)(H:Hp)(C:Addr)(cl:List (Str×Addr))(fp:List Addr),PG (X.GQ s H scope (compEnvC scope cl C X.env) fp) tg g) (ht:∀(s:Shared)(H:Hp)(C:Addr)(cl:List (Str×Addr))(fp:List Addr),Q1 (X.GQ s H scope (compEnvC scope cl C X.env) fp) ifs tt)
  (he:∀(s:Shared)(H:Hp)(C:Addr)(cl:List (Str×Addr))(fp:List Addr),PE (X.GQ s H scope (compEnvC scope cl C X.env) fp) elt te) (hs:∀ x,foldedSetIterable iter X.env x=pure x:=by intro _;rfl) :
  PS X (.Assign [.Name y py] (.ListComp elt [⟨tg,iter,ifs,0⟩] scope pos) spos) (Qm (RM wi g tt te (own.map (·.2))) (Lw i)):=by
 intro pins s σ H D I h;rw[exec_Assign_Name_used _ _ _ _ hsw];refine wpAny_bind (wpAny_standAt (wpAny_bind ?_));show wpAny _ X.A (do let _ ←comprehension (.ListComp elt [⟨tg,iter,ifs,0⟩] scope pos) scope X.env (firstIterPos [⟨tg,iter,ifs,0⟩] pos) (newList []) false (eval iter X.env) (some (assign (.Name y py) X.env))) _ _ s;have h:RM wi g tt te (own.map (·.2)) σ H (fun x H1=>Lw i x σ H1 D.nx):=h;refine wpAny_bind (gM (LM (Qf:=fun _ s'=>SP X pins D .next s') hc hN I hi ok hg ht he hs h fun L C s' m H' I' q hn f=>?_) fun _ s' hq=>wpAny_pure (wpAny_pure hq));show wpAny _ _ (assign (.Name y py) X.env (.ref L)) _ _ _;refine wpAny_assign_Name (GC (v:=V.ref L) I' hN hy (.inl hyl) rfl (fun s2 I2 ⟨a,sb,ha⟩=>?_) (.inr hyl));obtain⟨f0,f1,f2,f3,f4,f5⟩:=f;have haC:C≠a:=by
  rcases ha with z|z
  ·rw[z];exact f1
  ·exact fun e=>f4 y a z e.symm
 refine⟨m,hn.sameBut sb haC,fun h3 sb3=>?_⟩;exact⟨_,H',I2.turned (t':=s2.toks) (fun b o hb e=>(sb3.2 b hb).trans e) f0 f1 f3 f4 f5,q⟩
theorem O5{elt:Expr}{gs:List Comprehension}{scope:Scope}{pos py:Pos}{y:Str}{l:Nat}{env:Env}(hk:env.scope.kind=.function)(hy:env.scope.names.lookup y=some .local)(hl:(py.line==pos.line)=true)
  (ha:(scope.names.any fun(n,k)=>n==y&&(k == .local||k == .cell))=false):swapsWith (.ListComp elt gs scope pos) (some (.Name y py)) l env=pure true:=by
 have ky:env.kindOf y=some .local:=hy;have hb:env.blockKind=.function:=by unfold Env.blockKind;rw[hk];rfl
 unfold swapsWith;simp only[hb,ky,ha,Expr.pos,hl];rfl
end
theorem IE{lo:Int}{n:Nat}{g:TG}{tt:TT}{te:TE}{vs:List Nat}{σ:St}{H1:Hp}{D:Addr}{Qd:Hp→Prop}(Pv:Nat→Hp→Prop)(h0:Pv 0 (upd H1 D (.lst [])))
  (hs:∀ i H,i<n→Pv i H→g (.int (lo+i)) (wipe σ vs) H fun σ2 H2=>wipe σ2 vs=wipe σ vs∧tt σ2 H2 fun b H3=>
   if b=true then te σ2 H3 fun y H4=>∃ acc,H4 D=some (.lst acc)∧acc.length<sizeLine∧Pv (i+1) (upd H4 D (.lst (acc++[y])))else Pv (i+1) H3) (hd:∀ H,Pv n H→Qd H) :
  ∃ W:Nat→Nat→Hp→Prop,(∃ m,W 0 m (upd H1 D (.lst [])))∧∀ i m H,W i m H→
   ((PJ lo n).stop i H∧Qd H)∨((PJ lo n).go i H∧∃ Nx:Hp→Prop,(∀ H',Nx H'→∃ m',m'<m∧W (i+1) m' H')∧∀ x H',(PJ lo n).Pq i H x H'→g x (wipe σ vs) H' fun σ2 H2=>wipe σ2 vs=wipe σ vs∧tt σ2 H2 fun b H3=>
    if b=true then te σ2 H3 fun y H4=>∃ acc,H4 D=some (.lst acc)∧acc.length<sizeLine∧Nx (upd H4 D (.lst (acc++[y])))else Nx H3):=by
 refine⟨fun i m H=>m=n-i∧i≤n∧Pv i H,⟨n,by simp,Nat.zero_le _,h0⟩,?_⟩
 rintro i m H ⟨rfl,hi,p⟩
 by_cases hlt:i<n
 ·refine .inr ⟨hlt,Pv (i+1),fun H' p'=>⟨n-(i+1),by omega,rfl,hlt,p'⟩,fun x H' y=>?_⟩;obtain⟨e,y⟩:=y;subst e y;exact hs i _ hlt p
 ·have e:i=n:=by omega
  subst e;exact .inl ⟨Nat.le_refl _,hd H p⟩
theorem LN{K:PySem.W.Frag}{a:Addr}{xs:List V}{g:TG}{tt:TT}{te:TE}{vs:List Nat}{σ:St}{H1:Hp}{D:Addr}{Qd:Hp→Prop}(Pv:Nat→Hp→Prop)(h0:Pv 0 (upd H1 D (.lst [])))(hl:∀ i H,i≤xs.length→Pv i H→bD K H a xs)
  (hs:∀ i x H,xs[i]?=some x→Pv i H→g x (wipe σ vs) H fun σ2 H2=>wipe σ2 vs=wipe σ vs∧tt σ2 H2 fun b H3=>
   if b=true then te σ2 H3 fun y H4=>∃ acc,H4 D=some (.lst acc)∧acc.length<sizeLine∧Pv (i+1) (upd H4 D (.lst (acc++[y])))else Pv (i+1) H3) (hd:∀ H,Pv xs.length H→Qd H) :
  ∃ W:Nat→Nat→Hp→Prop,(∃ m,W 0 m (upd H1 D (.lst [])))∧∀ i m H,W i m H→
   ((Nz K a).stop i H∧Qd H)∨((Nz K a).go i H∧∃ Nx:Hp→Prop,(∀ H',Nx H'→∃ m',m'<m∧W (i+1) m' H')∧∀ x H',(Nz K a).Pq i H x H'→g x (wipe σ vs) H' fun σ2 H2=>wipe σ2 vs=wipe σ vs∧tt σ2 H2 fun b H3=>
    if b=true then te σ2 H3 fun y H4=>∃ acc,H4 D=some (.lst acc)∧acc.length<sizeLine∧Nx (upd H4 D (.lst (acc++[y])))else Nx H3):=by
 refine⟨fun i m H=>m=xs.length-i∧i≤xs.length∧Pv i H,⟨xs.length,by simp,Nat.zero_le _,h0⟩,?_⟩
 rintro i m H ⟨rfl,hi,p⟩
 have q:=hl i H hi p;by_cases hlt:i<xs.length
 ·refine .inr ⟨⟨xs,xs[i],q,by simp[hlt]⟩,Pv (i+1),fun H' p'=>⟨xs.length-(i+1),by omega,rfl,hlt,p'⟩,fun x H' y=>?_⟩;obtain⟨e,y⟩:=y;subst e;exact hs i x _ (y xs q) p
 ·have e:i=xs.length:=by omega
  subst e;exact .inl ⟨⟨xs,q,Nat.le_refl _⟩,hd H p⟩
noncomputable def Q5(N:List Str)(sc scope:Scope)(own:List (Str×Nat)):Bool:=
 (match scope.kind with|.function=>true|_=>false)&&(scope.names.all fun y=>decide (scope.names.lookup y.1=some y.2))&&(own.all fun p=>decide (N[p.2]?=some p.1)) &&
  (scope.names.all fun y=>match y.2 with
   |.free=>(match sc.names.lookup y.1 with|some .cell=>true|some .free=>true|_=>false)
   |.local=>decide (y.1∈own.map (·.1))||decide (y.1 ∉ N)
   |.cell=>decide (y.1∈own.map (·.1))||decide (y.1 ∉ N)
   |_=>true)
theorem lL{N:List Str}{sc scope:Scope}{own:List (Str×Nat)}(h:Q5 N sc scope own=true):JO N sc scope own:=by
 unfold Q5 at h;simp only[Bool.and_eq_true,List.all_eq_true,decide_eq_true_eq]at h;obtain⟨⟨⟨h1,h2⟩,h3⟩,h4⟩:=h;refine⟨?_,h2,h3,fun y hy e=>?_,fun y hy e=>?_⟩
 ·split at h1
  ·assumption
  ·cases h1
 ·have q:=h4 y hy;simp only[e]at q
  split at q<;>first|exact .inl (by assumption)|exact .inr (by assumption)|cases q
 ·have q:=h4 y hy;rcases e with e|e<;>(simp only[e,Bool.or_eq_true,decide_eq_true_eq]at q;exact q)
end L2
namespace L2
open PySem PySem.Spec PyProof.Rows
section
variable{prog:Program}{w:World}{A:Around}{R:Result→Shared→Prop}{s:Shared}{elt t0 i0 t1 i1:Expr}{ifs0 ifs1:List Expr}{scope:Scope}{pos:Pos}{it acc:Value}{env:Env}
end
section
variable{X:Cx}
end
end L2
namespace L2
open PySem PySem.Spec PyProof.Rows
section
variable{κ:Type}[DecidableEq κ]
end
section
variable{P:Program}{w:World}{H:Hp}{h:Heap}{a:Addr}
end
section
variable{X:Cx}{pins:List (Addr×Obj)}{σ:St}{H:Hp}{s:Shared}{a:Addr}{y v:V}{u r:Value}{o:Option V}{A:Around}{E:Value→Shared→Prop}
end
section
variable{X:Cx}{pins:List (Addr×Obj)}{σ:St}{H:Hp}{s:Shared}{a:Addr}{kvs:List (Key×V)}{k:Key}{u:Value}{A:Around}{E:Value→Shared→Prop}
end
section
variable{X:Cx}{o i e value:Expr}{pos pos' tM:Pos}{td ty tv:TE}
end
section
variable{X:Cx}{pos:Pos}
end
section
variable{X:Cx}{pins:List (Addr×Obj)}{σ:St}{H:Hp}{s:Shared}{a:Addr}{y d:V}{u r:Value}{o:Option V}{A:Around}{E:Value→Shared→Prop}
end
section
variable{X:Cx}{o e f:Expr}{apos cpos:Pos}{td ty tx:TE}
end
section
variable{X:Cx}{pins:List (Addr×Obj)}{σ:St}{H:Hp}{s:Shared}{a:Addr}{kvs:List (Key×V)}{A:Around}{E:Value→Shared→Prop}
end
section
variable{X:Cx}{pins:List (Addr×Obj)}{σ:St}{H:Hp}{s:Shared}{a:Addr}{y:V}{u:Value}{A:Around}{E:Value→Shared→Prop}
end
end L2
namespace L2
open PySem PySem.Spec PyProof.Rows
section
variable{prog:Program}{w:World}{A:Around}{E:Value→Shared→Prop}
end
section
variable{X:Cx}
end
end L2
namespace L2
open PySem PySem.Spec PyProof.Rows
section
variable{X:Cx}{pins:List (Addr×Obj)}{σ:St}{H:Hp}{s:Shared}{h':Heap}
end
section
variable{X:Cx}
theorem NZ{tg:Expr}{pins:List (Addr×Obj)}{σ:St}{H:Hp}{s:Shared}{R:It→Hp→Prop}{J:It}{tn:Nat→Heap→Prop}{tk:Nat}(I:Inv X pins σ H s)(o:Obj)
  (T:Turn X.prog X.w X.K tg J [s.heap.objs.size] s.heap.objs.size tn) (st:tn 0 (s.heap.push o)) (q:R J H):Sv X pins σ tg R (.ref s.heap.objs.size) { s with heap:=s.heap.push o,toks:=tk }:=by
 refine⟨s.heap.objs.size,[s.heap.objs.size],tn,J,H,rfl,I.kept fun b ob e=>Heap.get?_push_of_some _ e,T,st,fun b hb=>?_,q⟩;have e:b=s.heap.objs.size:=by simpa using hb
 subst e;exact I.Ph (Nat.le_refl _) (I.fD.fresh (Nat.le_refl _))
end
section
variable{X:Cx}{tg:Expr}
end
section
variable{X:Cx}{tg:Expr}
end
noncomputable def QZ(x:Str):It:=⟨fun i _=>i<x.cps.size,fun i H v H'=>H'=H∧∃ c,x.cps[i]?=some c∧v=.str ⟨#[c]⟩,fun i _=>x.cps.size≤i⟩
theorem IS{P:Program}{w:World}{K:PySem.W.Frag}{tg:Expr}(it:Addr)(x:Str)(t:Tok)(ty:String)(hty:ty="str_ascii_iterator"∨ty="str_iterator") :
  Turn P w K tg (QZ x) [it] it (fun i h=>h.IsStrIter it ty x t i) where
 mem:=by simp
 obj:=fun i h st b hb=>by
  have e:b=it:=by simpa using hb
  subst e;obtain⟨o,e,c,d⟩:=st;exact⟨o,e,fun v z=>by rw[d]at z;cases z⟩
 keep:=fun i h h' st k=>let⟨o,ho,r⟩:=st;⟨o,k it (by simp) o ho,r⟩
 item:=by
  intro X hP hw hK hc i pins s σ H E I hf st hg;subst hP hw hK;obtain⟨f0,f1,f2,f3,f4,f5⟩:=hf it (by simp);have W:Walks X.prog X.w X.A it [it] [it] x.cps.size (SignAt x) (fun i h=>h.IsStrIter it ty x t i):=by
   rcases hty with e|e
   ·rw[e];exact Walks.strAscii (I.ok.hd hc) it x t
   ·rw[e];exact Walks.strWide (I.ok.hd hc) it x t
  have hno:["enumerate","zip","dict_itemiterator","dict_reverseitemiterator","odict_iterator","itertools.zip_longest","itertools.pairwise"].contains ty=false:=by
   rcases hty with e|e
   ·rw[e];decide
   ·rw[e];decide
  refine W.item i s _ _ hg st fun v h' tk hv st' kk=>?_
  obtain⟨c,u,hcx,rfl⟩:=hv;have I1:Inv X pins σ H { s with heap:=h',toks:=tk }:=I.turned (fun b o hb e=>kk b o (by simpa using hb) e) f0 f1 f3 f4 f5;obtain⟨oi,e,cc,dd⟩:=id st';exact⟨_,rfl,Oi (s:={ s with heap:=h',toks:=tk }) e cc dd hno ⟨.str ⟨#[c]⟩,H,I1,⟨u,rfl⟩,⟨rfl,c,hcx,rfl⟩,st',fun b hb=>(hf b hb).1⟩⟩
 done:=by
  intro X hP hw hK hc i pins s σ H E I hf st hg;subst hP hw hK;obtain⟨f0,f1,f2,f3,f4,f5⟩:=hf it (by simp);have hx:x.cps[i]?=none:=Array.getElem?_eq_none hg;rcases hty with e|e
  ·rw[e]at st;exact wpAny_pyNext_ascii_end (I.ok.hd hc) st hx fun h' eb=>⟨rfl,I.turned (t':=s.toks) (fun b o hb e=>eb b o hb e) f0 f1 f3 f4 f5⟩
  ·rw[e]at st;exact wpAny_pyNext_wide_end (I.ok.hd hc) st hx fun h' eb=>⟨rfl,I.turned (t':=s.toks) (fun b o hb e=>eb b o hb e) f0 f1 f3 f4 f5⟩
 self:=fun A i s Q E st h=>by
  rcases hty with e|e
  ·rw[e]at st;exact wpAny_pyIter_striter_ascii st h
  ·rw[e]at st;exact wpAny_pyIter_striter_wide st h
noncomputable def SA(te:TE):TI:=fun σ H R=>te σ H fun v H1=>∃ x,v=.str x∧R (QZ x) H1
theorem Qb{X:Cx}{tg e:Expr}{te:TE}(he:PE X e te):PI X tg e (SA te):=by
 intro pins s σ H R I h;refine gM (he pins s σ H _ I h) fun v s1 ⟨y,H1,I1,r1,x,ex,q⟩=>?_
 subst ex;obtain⟨t,rfl⟩:=r1
 cases ha:x.cps.all (·<128)
 ·exact wpAny_pyIter_wide ha (NZ (tk:=s1.toks) I1 _ (IS _ x t "str_iterator" (.inr rfl)) ⟨_,Heap.get?_push_size _ rfl,rfl,rfl⟩ q)
 ·exact wpAny_pyIter_ascii ha (NZ (tk:=s1.toks) I1 _ (IS _ x t "str_ascii_iterator" (.inl rfl)) ⟨_,Heap.get?_push_size _ rfl,rfl,rfl⟩ q)
section
variable{prog:Program}{w:World}{A:Around}{E:Value→Shared→Prop}{s:Shared}
end
section
variable{X:Cx}{pins:List (Addr×Obj)}{σ:St}{H:Hp}{s:Shared}{d:Addr}{o:Obj}
end
section
variable{P:Program}{w:World}{K:PySem.W.Frag}{tg:Expr}{d:Addr}{o:Obj}{es:Array DictEntry}{ep:Nat}
end
section
variable{X:Cx}{tg e:Expr}{td:TE}{apos cpos:Pos}
end
end L2
section
namespace Bits
open PySem PyProof.Rows
end Bits
end
section
namespace TL
open PySem PySem.Builtin PySem.Builtin.Str PySem.StrLaws
noncomputable abbrev tl(x:Str):List Nat:=x.cps.toList
theorem Gs(x y:Str):tl (x++y)=tl x++tl y:=by
 show(x++y).cps.toList=_;rw[Str.cps_append,Array.toList_append]
noncomputable def Gy(S:List Nat):List (List Nat)→List Nat
 |[]=>[]
 |[p]=>p
 |p::q::r=>p++(S++Gy S (q::r))
theorem LP(y:Str):∀ parts:List Str,tl (Str.join y parts)=Gy (tl y) (parts.map tl)
 |[]=>rfl
 |[_]=>rfl
 |x::z::r=>by
  show tl (x++y++Str.join y (z::r))=tl x++(tl y++Gy (tl y) ((z::r).map tl))
  rw[Gs,Gs,LP y (z::r),List.append_assoc]
theorem join_eq(y:Str)(parts:List Str):Txt.join y parts=Str.join y parts:=glued_eq_join y parts
end TL
end
namespace L2
open PySem PySem.Spec PyProof.Rows
theorem uq:∀{ys:List Str}{us:List Value},Vals (ys.map V.str) us→StrsAre us ys
 |[],_,.nil=>.nil
 |y::ys,_,.cons r t=>by
  obtain⟨k,rfl⟩:=r;exact .cons y k (uq t)
section
variable{X:Cx}{pins:List (Addr×Obj)}{σ:St}{H:Hp}{s:Shared}{Q:VK}
end
section
variable{X:Cx}
theorem O7:Q4 X "str.join" (fun x xs H Q=>∃ a p,∃ ys:List Str,x=.str a∧xs=[.ref p]∧(bD X.K H p (ys.map V.str)∨tK X.K H p (ys.map V.str))∧
  (ys.map (·.length)).sum+ys.length*a.length≤16777216∧Q (.str (Txt.join a ys)) H):=by
 intro pins s σ H x xs v us Q I rx rs h;obtain⟨a,p,ys,rfl,rfl,hp,hz,h⟩:=h;obtain⟨t,rfl⟩:=rx
 cases rs with
 |cons r1 rs=>
  cases rs;cases r1;rcases hp with hp|hp
  ·obtain⟨its,r,⟨o,n,ho,hc,_,hd⟩,_⟩:=I.list hp;exact PyProof.Rows.join_list (items:=its.toArray) ⟨o,ho,hc,n,hd⟩ (by rw[List.toList_toArray];exact uq r) hz fun t' k=>⟨.str _,H,I.tok k,⟨t',rfl⟩,h⟩
  ·obtain⟨its,r,ht,_⟩:=I.tuple hp;exact PyProof.Rows.join_tuple (items:=its.toArray) ht (by rw[List.toList_toArray];exact uq r) hz fun t' k=>⟨.str _,H,I.tok k,⟨t',rfl⟩,h⟩
end
section
variable{X:Cx}{o e:Expr}{to te:TE}
def SX(r:V→List V→Hp→VK→Prop)(to te:TE):TE:=fun σ H Q=>to σ H fun x H1=>(∃ a,x=.str a)∧te σ H1 fun y H2=>r x [y] H2 Q
theorem Rx{id:String}{name:Str}{apos pos:Pos}{r:V→List V→Hp→VK→Prop}(slot:Slot "str" name id)(ty:typeOf (.builtin id)=pure (.type "method_descriptor"))(rule:Q4 X id r)(ho:PE X o to)(he:PE X e te)
  (hs:starEach [e] X.env=[(false,eval e X.env)]:=by rfl) (hbase:attributeBase o name X.env (eval o X.env)=eval o X.env:=by rfl) (hline:(apos.endLine==pos.line)=true:=by rfl) :
  PE X (.Call (.Attribute o name apos) [e] [] pos) (SX r to te):=by
 intro pins s σ H Q I h;refine PySem.Call_method1 hbase hs hline (gM (ho pins s σ H _ I h) fun v s1 ⟨x,H1,I1,r1,q1⟩=>?_);obtain⟨⟨a,rfl⟩,q1⟩:=q1;obtain⟨t,rfl⟩:=_root_.id r1;refine⟨"str",_,F.plainAttrs_str,slot,ty,typeIs_str _ _ _,(fun _ e=>nomatch e),Calls.callWith_builtin rfl (Calls.evalArgs_plain (Calls.spliced_cons ?_))⟩
 exact gM (he pins s1 σ H1 _ I1 q1) fun u s2 ⟨y,H2,I2,r2,q2⟩=>Calls.spliced_nil (rule pins s2 σ H2 _ [y] _ [u] Q I2 r1 (.cons r2 .nil) q2)
theorem O9{apos pos:Pos}(ho:PE X o to)(he:PE X e te)(hs:starEach [e] X.env=[(false,eval e X.env)]:=by rfl)(hbase:attributeBase o "join" X.env (eval o X.env)=eval o X.env:=by rfl)(hline:(apos.endLine==pos.line)=true:=by rfl) :
  PE X (.Call (.Attribute o "join" apos) [e] [] pos) (SX (fun x xs H Q=>∃ a p,∃ ys:List Str,x=.str a∧xs=[.ref p]∧(bD X.K H p (ys.map V.str)∨tK X.K H p (ys.map V.str))∧
   (ys.map (·.length)).sum+ys.length*a.length≤16777216∧Q (.str (Txt.join a ys)) H) to te):=
 Rx F.slot_str_join F.type_str_join O7 ho he hs hbase hline
end
end L2
namespace L2
open PySem PySem.Spec PyProof.Rows
section
variable{X:Cx}
end
end L2
namespace SV
open PySem PySem.W PySem.Calls PyProof.Rows
theorem CW{P:Params}{h:Heap}:∀(ns:List Int)(vs:List Value),WellAll P h vs (ns.map WData.int)→IntsAre vs ns:=by
 intro ns
 induction ns with
 |nil=>
  intro vs w;rw[List.map_nil]at w;cases w;exact .nil
 |cons n ns ih=>
  intro vs w;rw[List.map_cons]at w
  cases w with
  |cons a b=>
   cases a;exact .cons _ _ (ih _ b)
section
variable{prog:Program}{w:World}{A:Around}{E:Value→Shared→Prop}{s:Shared}{K:Frag}
end
end SV
namespace L2
open PySem PySem.Spec PyProof.Rows
theorem Gi:∀{vs:List Value}{ns:List Int},IntsAre vs ns→Vals (ns.map V.int) vs
 |_,_,.nil=>.nil
 |_,_,.cons n t h=>.cons ⟨t,rfl⟩ (Gi h)
def Q0(H:Hp):Prop:=∀ b,H b=none∨∃ o xs,H b=some (.frz o (.lst xs))
end L2
namespace L2
open PySem PySem.Spec PyProof.Rows
noncomputable abbrev SK{K:PySem.W.Frag}{h:Heap}(_:K.In h):PySem.W.Frag:=K
end L2
namespace L2
open PySem PySem.Spec PyProof.Rows
noncomputable def inClass(s:Stmt)(j:Nat):Stmt:=match s with
 |.ClassDef _ _ _ body _ _ _ _ _ _ _=>body.getD j (.Pass ⟨0,0,0,0⟩)
 |_=>.Pass ⟨0,0,0,0⟩
noncomputable def fY(s:Stmt):Arguments:=match s with
 |.FunctionDef _ a _ _ _ _ _ _ _ _=>a
 |_=>{ posonlyargs:=[],args:=[],vararg:=none,kwonlyargs:=[],kw_defaults:=[],kwarg:=none,defaults:=[] }
noncomputable def fz(s:Stmt):List Stmt:=match s with
 |.FunctionDef _ _ b _ _ _ _ _ _ _=>b
 |_=>[]
noncomputable def ai(s:Stmt):Scope:=match s with
 |.FunctionDef _ _ _ _ _ _ sc _ _ _=>sc
 |_=>{ kind:=.function,names:=[],isGenerator:=false,isCoroutine:=false }
noncomputable abbrev cG:NQ:=fun _ _ _ _ _ _=>False
noncomputable abbrev E0:XK:=fun _ _ _=>False
theorem au{X:Cx}:Passes cG X E0:=fun _ _ _ _ _ _ _ h=>h.elim
structure PR(K:PySem.W.Frag)(x qual:Str)(st:Stmt)(f:Addr)(fd:FuncData):Prop where
 ex:∃(oc:Value)(od:Option Addr)(kV doc pm:Value)(an:Option Addr)(cdv ct:Value)(osl:Array (Option Value)),
  fd=PySem.W.fnOf x qual (fY st) (fz st) (ai st) .none kV doc pm an cdv ct∧K.lookup f=some ⟨oc,od,.func fd,osl⟩∧PySem.W.codeIn K cdv qual=true
 kp:PySem.W.keepIn K (.ref f)=true
section
variable{P:Program}{w:World}{K:PySem.W.Frag}{mg:Str→Option Value}{base:Heap}
theorem PR.ok{x qual:Str}{st:Stmt}{f:Addr}{fd:FuncData}{N ps:List Str}{k:Nat}{sp:Sp}(F:PR K x qual st f fd)(S:ao N ps (ai st))(len:∀ vs H Q E,sp vs H Q E→vs.length=ps.length)
  (hbody:∀(cdv:Value)(A:Around)(outer:List Env)(s:Shared)(H:Hp)(vs:List V)(Q:VK)(E:XK),mE k (A.deeper (envOfC qual (ai st) s.heap.objs.size f cdv))→sp vs H Q E→
   ∃ t,Ms (Md cG P w K mg base N qual (ai st) f cdv A outer s H E).RO (fz st) t∧t { nx:=fun _ H'=>Q .non H',rt:=Q } (start N vs) H):aZ P w K mg base cG (k+1) f fd ps sp:=by
 obtain⟨oc,od,kV,doc,pm,an,cdv,ct,osl,rfl,lk,hcd⟩:=F.ex;refine Rr lk hcd S len fun A outer s H vs Q E hr hsp=>?_
 obtain⟨t,h,q⟩:=hbody cdv A outer s H vs Q E hr hsp;exact⟨t,h.RO,q⟩
theorem PR.binds{x qual:Str}{st:Stmt}{f:Addr}{fd:FuncData}{ps:List Str}(F:PR K x qual st f fd)
  (h:∀(kV doc pm:Value)(an:Option Addr)(cdv ct:Value)(us:List Value),us.length=ps.length→bindArgs (PySem.W.fnOf x qual (fY st) (fz st) (ai st) .none kV doc pm an cdv ct) ⟨us,[]⟩=pure (ps.zip us)):Binds K fd ps []:=by
 obtain⟨oc,od,kV,doc,pm,an,cdv,ct,osl,rfl,lk,hcd⟩:=F.ex;exact .all (h kV doc pm an cdv ct)
theorem Qt{x qual:Str}{st:Stmt}{f:Addr}{oc:Value}{od an:Option Addr}{osl:Array (Option Value)}{kV doc pm cdv ct:Value}(l:K.lookup f=some ⟨oc,od,.func (PySem.W.fnOf x qual (fY st) (fz st) (ai st) .none kV doc pm an cdv ct),osl⟩)
  (c:PySem.W.codeIn K cdv qual=true) (k:PySem.W.keepIn K (.ref f)=true):PR K x qual st f (PySem.W.fnOf x qual (fY st) (fz st) (ai st) .none kV doc pm an cdv ct):=⟨⟨oc,od,kV,doc,pm,an,cdv,ct,osl,rfl,l,c⟩,k⟩
end
theorem pA{n:Nat}(h:n≤1000):n<sizeLine:=Nat.lt_of_le_of_lt h (by decide)
section
variable{X:Cx}
theorem pv(i:Nat){x:Str}{pos:Pos}(hN:X.N[i]?=some x:=by rfl)(hv:QU X.env.scope x:=by first|exact Or.inl rfl|exact Or.inr (Or.inl rfl)|exact Or.inr (Or.inr rfl))(hd:(x==("__debug__":Str))=false:=by decide)
  (hcd:(x==("__classdict__":Str))=false:=by decide):PE X (.Name x pos) (Fq i):=Nb hN hv hd hcd
end
theorem lZ{A B:Prop}(h:B):if false=true then A else B:=by
 rw[if_neg Bool.false_ne_true];exact h
theorem vD{A B:Prop}(h:A):if true=true then A else B:=by
 rw[if_pos rfl];exact h
theorem eM{c A B:Prop}[Decidable c](h1:c→A)(h2:¬c→B):if c then A else B:=by
 by_cases h:c
 ·rw[if_pos h];exact h1 h
 ·rw[if_neg h];exact h2 h
def a6(H H':Hp):Prop:=∀ b o,H b=some o→H' b=some o
theorem a6.refl(H:Hp):a6 H H:=fun _ _ h=>h
theorem a6.trans{H H1 H2:Hp}(a:a6 H H1)(b:a6 H1 H2):a6 H H2:=fun c o h=>b c o (a c o h)
theorem a6.free{H H':Hp}(e:a6 H H'){l:Addr}(h:H' l=Option.none):H l=Option.none:=by
 cases q:H l with
 |none=>rfl
 |some o=>
  rw[e l o q]at h;cases h
theorem a6.seq{K:PySem.W.Frag}{H H':Hp}{a:Addr}{xs:List V}(e:a6 H H')(h:bD K H a xs):bD K H' a xs:=by
 rcases h with(h|⟨o,h⟩)|h
 ·exact .inl (.inl (e _ _ h))
 ·exact .inl (.inr ⟨o,e _ _ h⟩)
 ·exact .inr h
section
variable{κ:Type}[DecidableEq κ]
end
end L2
namespace Fl
open Sh11Neutral
theorem El{p:Int}{n k:Nat}(h:PySh11.shape p=some (n,k)):k=0:=by
 have g:∀(c:Prop)[Decidable c](a:Nat)(x:Option (Nat×Nat)),(∀ n k,x=some (n,k)→k=0)→∀ n k,(if c then some (a,0)else x)=some (n,k)→k=0:=by
  intro c _ a x hx n k h;by_cases hc:c
  ·rw[if_pos hc]at h;exact (Prod.mk.inj (Option.some.inj h)).2.symm
  ·rw[if_neg hc]at h;exact hx n k h
 suffices H:∀ n k,PySh11.shape p=some (n,k)→k=0 from H n k h
 clear h;unfold PySh11.shape
 iterate 19 (refine g _ _ _ ?_)
 intro n k h;cases h
theorem IF{f:Nat}{p:Int}{r:List Int}{cs:List (List (List Int))}(h:PyFlat.calls PySh11.shape (f+1) (p::r)=some cs) :
  ∃ n,PySh11.shape p=some (n,0)∧n≤r.length∧∃ cs',PyFlat.calls PySh11.shape f (r.drop n)=some cs'∧cs=[p::r.take n]::cs':=by
 unfold PyFlat.calls at h
 cases e:PyFlat.call PySh11.shape (p::r)with
 |none=>simp[e]at h
 |some ct=>
  obtain⟨c,t⟩:=ct;rw[e]at h;simp only[]at h;unfold PyFlat.call at e
  cases es:PySh11.shape p with
  |none=>simp[es]at e
  |some nk=>
   obtain⟨n,k⟩:=nk;have hk:=El es;subst hk;simp only[es,PyFlat.rows]at e;by_cases hl:r.length<n
   ·rw[if_pos hl]at e;cases e
   ·rw[if_neg hl]at e;have e':=Option.some.inj e;have e1:[p::r.take n]=c:=(Prod.mk.inj e').1;have e2:r.drop n=t:=(Prod.mk.inj e').2;subst e1 e2;refine⟨n,rfl,by omega,?_⟩
    cases eq:PyFlat.calls PySh11.shape f (r.drop n)with
    |none=>rw[eq]at h;cases h
    |some cs'=>
     rw[eq]at h;exact⟨cs',rfl,(Option.some.inj h).symm⟩
theorem B2:∀(f g:Nat)(l:List Int),l.length≤f→l.length≤g→PyFlat.calls PySh11.shape f l=PyFlat.calls PySh11.shape g l
 |f,g,[],_,_=>(by cases f<;>cases g<;>rfl)
 |0,_,_::_,h,_=>by simp at h
 |_,0,_::_,_,h=>by simp at h
 |f+1,g+1,p::r,hf,hg=>by
  unfold PyFlat.calls
  cases e:PyFlat.call PySh11.shape (p::r)with
  |none=>rfl
  |some ct=>
   obtain⟨c,t⟩:=ct;have ht:t.length≤r.length:=by
    unfold PyFlat.call at e
    cases es:PySh11.shape p with
    |none=>simp[es]at e
    |some nk=>
     obtain⟨n,k⟩:=nk;have hk:=El es;subst hk;simp only[es,PyFlat.rows]at e;by_cases hl:r.length<n
     ·rw[if_pos hl]at e;cases e
     ·rw[if_neg hl]at e;have e2:r.drop n=t:=(Prod.mk.inj (Option.some.inj e)).2;rw[←e2,List.length_drop];omega
   simp only[List.length_cons]at hf hg;simp only[];rw[B2 f g t (by omega) (by omega)]
theorem Mw{p:Int}{a:List Int}{n:Nat}(hs:PySh11.shape p=some (n,0))(hn:a.length=n):PySh11.whole [p::a]=[p::a]:=by
 have hp:p=0∧n=5∨p=1∧n=2∨p=2∧n=1∨p=3∧n=8∨p=4∧n=1∨p=5∧n=2∨p=6∧n=1∨p=7∧n=0∨p=8∧n=0∨p=9∧n=0∨p=10∧n=0∨p=11∧n=0∨p=12∧n=1∨p=13∧n=2∨p=14∧n=2∨p=15∧n=2∨p=16∧n=2∨p=17∧n=3∨p=18∧n=0:=by
  have g:∀(c:Prop)[Decidable c](b:Nat)(x:Option (Nat×Nat))(A B:Prop),(c→b=n→A)→(x=some (n,0)→B)→(if c then some (b,0)else x)=some (n,0)→A∨B:=by
   intro c _ b x A B h1 h2 h;by_cases hc:c
   ·rw[if_pos hc]at h;exact .inl (h1 hc (Prod.mk.inj (Option.some.inj h)).1)
   ·rw[if_neg hc]at h;exact .inr (h2 h)
  have l:(if p=18 then some (0,0)else none)=some (n,0)→p=18∧n=0:=fun h=>by
   by_cases hc:p=18
   ·rw[if_pos hc]at h;exact⟨hc,((Prod.mk.inj (Option.some.inj h)).1).symm⟩
   ·rw[if_neg hc]at h;cases h
  unfold PySh11.shape at hs;exact (g _ _ _ _ _ (fun h e=>⟨h,e.symm⟩) (g _ _ _ _ _ (fun h e=>⟨h,e.symm⟩) (g _ _ _ _ _ (fun h e=>⟨h,e.symm⟩) (g _ _ _ _ _ (fun h e=>⟨h,e.symm⟩) (g _ _ _ _ _ (fun h e=>⟨h,e.symm⟩) (g _ _ _ _ _ (fun h e=>⟨h,e.symm⟩) (g _ _ _ _ _ (fun h e=>⟨h,e.symm⟩) (g _ _ _ _ _ (fun h e=>⟨h,e.symm⟩) (g _ _ _ _ _ (fun h e=>⟨h,e.symm⟩) (g _ _ _ _ _ (fun h e=>⟨h,e.symm⟩) (g _ _ _ _ _ (fun h e=>⟨h,e.symm⟩) (g _ _ _ _ _ (fun h e=>⟨h,e.symm⟩) (g _ _ _ _ _ (fun h e=>⟨h,e.symm⟩) (g _ _ _ _ _ (fun h e=>⟨h,e.symm⟩) (g _ _ _ _ _ (fun h e=>⟨h,e.symm⟩) (g _ _ _ _ _ (fun h e=>⟨h,e.symm⟩) (g _ _ _ _ _ (fun h e=>⟨h,e.symm⟩) (g _ _ _ _ _ (fun h e=>⟨h,e.symm⟩) l)))))))))))))))))) hs
 rcases hp with⟨rfl,rfl⟩|⟨rfl,rfl⟩|⟨rfl,rfl⟩|⟨rfl,rfl⟩|⟨rfl,rfl⟩|⟨rfl,rfl⟩|⟨rfl,rfl⟩|⟨rfl,rfl⟩|⟨rfl,rfl⟩|⟨rfl,rfl⟩|⟨rfl,rfl⟩|⟨rfl,rfl⟩|⟨rfl,rfl⟩|⟨rfl,rfl⟩|⟨rfl,rfl⟩|⟨rfl,rfl⟩|⟨rfl,rfl⟩|⟨rfl,rfl⟩|⟨rfl,rfl⟩
 ·match a,hn with|[_,_,_,_,_],_=>rfl
 ·match a,hn with|[_,_],_=>rfl
 ·match a,hn with|[_],_=>rfl
 ·match a,hn with|[_,_,_,_,_,_,_,_],_=>rfl
 ·match a,hn with|[_],_=>rfl
 ·match a,hn with|[_,_],_=>rfl
 ·match a,hn with|[_],_=>rfl
 ·match a,hn with|[],_=>rfl
 ·match a,hn with|[],_=>rfl
 ·match a,hn with|[],_=>rfl
 ·match a,hn with|[],_=>rfl
 ·match a,hn with|[],_=>rfl
 ·match a,hn with|[_],_=>rfl
 ·match a,hn with|[_,_],_=>rfl
 ·match a,hn with|[_,_],_=>rfl
 ·match a,hn with|[_,_],_=>rfl
 ·match a,hn with|[_,_],_=>rfl
 ·match a,hn with|[_,_,_],_=>rfl
 ·match a,hn with|[],_=>rfl
def Good(l:List Int):Prop:=∃ cs,PySh11.calls l=some cs∧cs.all askedOne=true
noncomputable def QC(s:S)(l:List Int):List Int:=match PySh11.calls l with
 |none=>[]
 |some cs=>PyFlat.told (PyFlat.played step s cs)
theorem PD(s:S):QC s []=[]:=rfl
theorem yE{p:Int}{r:List Int}{cs:List (List (List Int))}(h:PySh11.calls (p::r)=some cs) :
  ∃ n,PySh11.shape p=some (n,0)∧n≤r.length∧∃ cs',PySh11.calls (r.drop n)=some cs'∧cs=[p::r.take n]::cs':=by
 unfold PySh11.calls at h
 cases e:PyFlat.calls PySh11.shape (p::r).length (p::r)with
 |none=>rw[e]at h;cases h
 |some ds=>
  rw[e]at h;have h':=Option.some.inj h;obtain⟨n,hs,hn,ds',e2,e3⟩:=IF (f:=r.length) e;refine⟨n,hs,hn,ds'.map PySh11.whole,?_,?_⟩
  ·unfold PySh11.calls;rw[B2 _ r.length (r.drop n) (Nat.le_refl _) (by rw[List.length_drop];omega),e2]
  ·rw[←h',e3,List.map_cons,Mw hs (by rw[List.length_take];omega)]
theorem Good.cons{p:Int}{r:List Int}(h:Good (p::r)) :
  ∃ n,PySh11.shape p=some (n,0)∧n≤r.length∧askedOne [p::r.take n]=true∧Good (r.drop n)∧
   ∀ s,QC s (p::r)=(((step s [p::r.take n]).2.length:Nat):Int)::((step s [p::r.take n]).2++QC (step s [p::r.take n]).1 (r.drop n)):=by
 obtain⟨cs,e,ha⟩:=h;obtain⟨n,hs,hn,cs',e2,e3⟩:=yE e;subst e3;rw[List.all_cons,Bool.and_eq_true]at ha;refine⟨n,hs,hn,ha.1,⟨cs',e2,ha.2⟩,fun s=>?_⟩;unfold QC;rw[e,e2];simp only[PyFlat.played,PyFlat.told,List.flatMap_cons,List.cons_append]
theorem Kr{l:List Int}(h:PySh11.answers_asked l=true):Good l∧PySh11.answers l=QC start l:=by
 unfold PySh11.answers_asked at h;unfold PySh11.answers QC Good
 cases e:PySh11.calls l with
 |none=>rw[e]at h;cases h
 |some cs=>
  rw[e]at h;simp only[Bool.and_eq_true,asked]at h;exact⟨⟨cs,rfl,h.2.1⟩,rfl⟩
theorem JC{l:List Int}(h:PySh11.answers_asked l=true):∃ r,l=0::r∧5≤r.length∧(step start [0::r.take 5]).2=[0]:=by
 unfold PySh11.answers_asked at h
 cases l with
 |nil=>
  have e:PySh11.calls []=some []:=rfl;rw[e]at h;simp[asked]at h
 |cons p r=>
  cases e:PySh11.calls (p::r)with
  |none=>rw[e]at h;cases h
  |some cs=>
   rw[e]at h;obtain⟨n,hs,hn,cs',e2,e3⟩:=yE e;subst e3;simp only[Bool.and_eq_true,asked]at h;obtain⟨_,_,h⟩:=h;by_cases hp:p=0
   ·subst hp;have en:n=5:=by
     have:PySh11.shape 0=some (5,0):=rfl;rw[this]at hs;exact (Prod.mk.inj (Option.some.inj hs)).1.symm
    subst en;exact⟨r,rfl,hn,by simpa using h⟩
   ·exfalso
    split at h
    ·rename_i heq;simp at heq;exact hp heq.1.1.1
    ·cases h
theorem Kc{l:List Int}(h:PySh11.answers_asked l=true):∃ cs,PySh11.calls l=some cs∧cs.length≤3000:=by
 unfold PySh11.answers_asked at h
 cases e:PySh11.calls l with
 |none=>rw[e]at h;cases h
 |some cs=>
  rw[e]at h;simp only[Bool.and_eq_true,PyFlat.atMost]at h;exact⟨cs,rfl,of_decide_eq_true h.1⟩
noncomputable def many(l:List Int):Nat:=match PySh11.calls l with
 |none=>0
 |some cs=>cs.length
theorem MK{p:Int}{r:List Int}(h:Good (p::r)){n:Nat}(hs:PySh11.shape p=some (n,0)):many (p::r)=many (r.drop n)+1:=by
 obtain⟨cs,e,ha⟩:=h;obtain⟨n',hs',hn,cs',e2,e3⟩:=yE e;rw[hs]at hs';have en:=(Prod.mk.inj (Option.some.inj hs')).1;subst en;unfold many;rw[e,e2,e3];rfl
end Fl
namespace aq
open Sh11 (Bat Bowl Fall Stand Ball Rules)
theorem qU{α:Type}(f:α→α):∀(l:List α)(k i:Nat),(l.zipIdx k).map (fun x=>if x.2=i+k then f x.1 else x.1)=l.modify i f
 |[],k,i=>by cases i<;>rfl
 |a::r,k,0=>by
  rw[List.zipIdx_cons,List.map_cons,List.modify_zero_cons];simp only[Nat.zero_add,if_true]
  congr 1
  have:∀(r:List α)(j:Nat),k<j→(r.zipIdx j).map (fun x=>if x.2=k then f x.1 else x.1)=r:=by
   intro r
   induction r with
   |nil=>intro j _;rfl
   |cons b r ih=>
    intro j hj;rw[List.zipIdx_cons,List.map_cons,ih (j+1) (by omega)];simp only[];rw[if_neg (by omega)]
  exact this r (k+1) (by omega)
 |a::r,k,i+1=>by
  rw[List.zipIdx_cons,List.map_cons,List.modify_succ_cons];simp only[];rw[if_neg (by omega),←qU f r (k+1) i]
  congr 1
  apply congrArg (fun g=>List.map g (r.zipIdx (k+1)))
  funext x
  congr 1
  simp only[eq_iff_iff];omega
theorem gg{α:Type}(l:List α)(i:Nat)(f:α→α):Sh11.changed l i f=l.modify i f:=by
 unfold Sh11.changed;exact qU f l 0 i
theorem v9{α:Type}(f:α→α)(i:α):∀ ps:List α,(ps++[i]).modify ps.length f=ps++[f i]
 |[]=>rfl
 |a::r=>by
  show(a::(r++[i])).modify (r.length+1) f=a::(r++[f i])
  rw[List.modify_succ_cons,v9 f i r]
theorem Ir{α:Type}(ps:List α)(i:α)(f:α→α):Sh11.changed (ps++[i]) ((ps++[i]).length-1) f=ps++[f i]:=by
 rw[gg,List.length_append];exact v9 f i ps
theorem Dy(l:List Nat):Sh11.total l=l.sum:=by
 have:∀(l:List Nat)(a:Nat),l.foldl (fun(a b:Nat)=>a+b) a=a+l.sum:=by
  intro l
  induction l with
  |nil=>intro a;simp
  |cons x r ih=>intro a;rw[List.foldl_cons,ih,List.sum_cons];omega
 unfold Sh11.total;rw[this];omega
theorem a8{α:Type}(l:List α):l=[]∨∃ ps i,l=ps++[i]:=by
 rcases List.eq_nil_or_concat l with h|⟨ps,i,h⟩
 ·exact .inl h
 ·exact .inr ⟨ps,i,by rw[h,List.concat_eq_append]⟩
noncomputable def extra(b:Ball):Nat:=if b.kind=0 then 0 else 1
noncomputable def cF(b:Ball):Nat:=b.runs+extra b
noncomputable def g8(b:Ball):Bool:=b.kind != 1&&b.off==0
noncomputable def fR(b:Ball):Nat:=if g8 b=true then b.runs else 0
noncomputable def bc(b:Ball):Nat:=extra b+(if b.off=0 then b.runs else 0)
noncomputable def boundary(b:Ball)(n:Nat):Bool:=b.line==1&&(g8 b&&b.runs==n)
noncomputable def a7(b:Ball):Bool:=b.how != 0&&decide (b.how≤5)
structure Ka where
 overs:Nat
 d9:Bowl
structure Over where
 bowler:Nat
 balls:Nat
 runs:Nat
 notes:List Sh11.Bytes
structure ak where
 side:Nat
 len:Nat
 bats:List Bat
 aI:List Ka
 e0:Nat
 e1:Nat
 eW:Nat
 bowler:Nat
 overs:List Over
 falls:List Fall
 stands:List Stand
 runs:Nat
 wickets:Nat
 balls:Nat
 wides:Nat
 noBalls:Nat
 byes:Nat
 legByes:Nat
 qO:Nat
 ended:Nat
structure ab where
 rules:Rules
 played:List ak
 owed:Nat×Nat
 followed:Bool
 up:Bool
noncomputable def face(b:Ball)(x:Bat):Bat:=
 if b.kind=1 then x
 else{ x with balls:=x.balls+1,runs:=x.runs+fR b,fours:=if boundary b 4=true then x.fours+1 else x.fours,sixes:=if boundary b 6=true then x.sixes+1 else x.sixes }
noncomputable def leave(how bowler fielder:Nat)(x:Bat):Bat:={ x with how:=how,bowler:=bowler,fielder:=fielder }
noncomputable def bI(x:Bat):Bool:=x.place==0||x.how==9
noncomputable def dA(b:Ball)(x:Ka):Ka:={ x with d9:={ x.d9 with
 runs:=x.d9.runs+bc b,balls:=if b.kind=0 then x.d9.balls+1 else x.d9.balls,wides:=if b.kind=1 then x.d9.wides+1 else x.d9.wides,
 noBalls:=if b.kind=2 then x.d9.noBalls+1 else x.d9.noBalls,wickets:=if a7 b=true then x.d9.wickets+1 else x.d9.wickets } }
noncomputable def Hz(y:Ka):Ka:={ y with d9:={ y.d9 with maidens:=y.d9.maidens+1 } }
noncomputable def b7(b:Ball)(x:Over):Over:={ x with runs:=x.runs+bc b,balls:=if b.kind=0 then x.balls+1 else x.balls,notes:=x.notes++[b.written] }
noncomputable def gF(b:Ball)(x:Stand):Stand:={ x with runs:=x.runs+cF b,balls:=if b.kind=0 then x.balls+1 else x.balls }
noncomputable def gI{α:Type}(f:α→α)(l:List α):List α:=l.modify (l.length-1) f
theorem ie{α:Type}(f:α→α)(ps:List α)(i:α):gI f (ps++[i])=ps++[f i]:=by
 unfold gI;rw[List.length_append];exact v9 f i ps
namespace ak
noncomputable def fresh(side len:Nat):ak:=⟨side,len,List.replicate 11 Sh11.freshBat,List.replicate 11 ⟨0,0,0,0,0,0,0⟩,11,11,0,11,[],[],[],0,0,0,0,0,0,0,0,0⟩
noncomputable def bG(p:Nat)(i:ak):ak:={ i with eW:=i.eW+1,bats:=i.bats.modify p fun x=>{ x with place:=i.eW+1 } }
noncomputable def Ee(s o:Nat)(i:ak):ak:=
 let j:=bG o (bG s { i with e0:=s,e1:=o })
 { j with stands:=j.stands++[⟨s,o,0,0⟩] }
noncomputable def aH(i:ak):Bool:=i.e0==11||i.e1==11
noncomputable def dD(i:ak):Bool:=i.bats.any bI
noncomputable def vY(i:ak):Bool:=decide (i.eW<11)
noncomputable def gb(p:Nat)(i:ak):ak:=
 let j:ak:=if i.e0=11 then{ i with stands:=i.stands++[⟨i.e1,p,0,0⟩],e0:=p }else{ i with stands:=i.stands++[⟨i.e0,p,0,0⟩],e1:=p }
 let k:=if((j.bats[p]?).map (·.place)).getD 0=0 then bG p j else j
 { k with bats:=k.bats.modify p fun x=>{ x with how:=0 } }
noncomputable def cj(p:Nat)(i:ak):ak:={ i with bowler:=p,aI:=i.aI.modify p fun x=>{ x with overs:=x.overs+1 },overs:=i.overs++[⟨p,0,0,[]⟩] }
noncomputable def c9(i:ak):ak:={ i with e0:=i.e1,e1:=i.e0 }
noncomputable def BM(b:Ball)(i:ak):ak:={ i with
 runs:=i.runs+cF b,balls:=if b.kind=0 then i.balls+1 else i.balls,wides:=if b.kind=1 then i.wides+cF b else i.wides,
 noBalls:=if b.kind=2 then i.noBalls+extra b else i.noBalls,byes:=if b.off=1 then i.byes+b.runs else i.byes,legByes:=if b.off=2 then i.legByes+b.runs else i.legByes }
noncomputable def lH(p:Nat)(i:ak):ak:={ i with wickets:=i.wickets+1,falls:=i.falls++[⟨i.runs,p,i.balls⟩] }
noncomputable def eY(b:Ball)(i:ak):ak:=
 let gone:=if b.out=0 then i.e0 else i.e1
 let left:=if b.out=0 then i.e1 else i.e0
 let j:=lH gone { i with bats:=i.bats.modify gone (leave b.how (if a7 b=true then i.bowler else 11) b.fielder) }
 { j with e0:=if b.end_=0 then 11 else left,e1:=if b.end_=0 then left else 11 }
noncomputable def aJ(b:Ball)(i:ak):ak:=if b.how≠0 then eY b i else if b.runs % 2=1 then c9 i else i
noncomputable def overBalls(i:ak):Nat:=((i.overs.getLast?).map (·.balls)).getD 0
noncomputable def overRuns(i:ak):Nat:=((i.overs.getLast?).map (·.runs)).getD 0
noncomputable def gh(i:ak):ak:=
 let j:ak:=if i.overRuns=0 then{ i with aI:=i.aI.modify i.bowler Hz }else i
 c9 { j with bowler:=11 }
noncomputable def deliver(b:Ball)(i:ak):ak:=
 let j:=BM b i
 let j:={ j with bats:=j.bats.modify j.e0 (face b) }
 let j:={ j with aI:=j.aI.modify j.bowler (dA b) }
 let j:={ j with stands:=gI (gF b) j.stands }
 let j:={ j with overs:=gI (b7 b) j.overs }
 let j:=aJ b j
 if j.overBalls=j.len then gh j else j
noncomputable def retire(e hurt:Nat)(i:ak):ak:=
 let p:=if e=0 then i.e0 else i.e1
 let j:ak:={ i with e0:=if e=0 then 11 else i.e0,e1:=if e=0 then i.e1 else 11 }
 if hurt=1 then{ j with bats:=j.bats.modify p (leave 9 11 11) }else lH p { j with bats:=j.bats.modify p (leave 10 11 11) }
noncomputable def bK(n:Nat)(i:ak):ak:={ i with runs:=i.runs+n,qO:=i.qO+n }
noncomputable def opt(n:Nat):Option Nat:=if n=11 then none else some n
noncomputable def Ah(i:ak):Option Nat:=if i.bowler=11 then(i.overs.getLast?).map (·.bowler)else(i.overs.dropLast.getLast?).map (·.bowler)
noncomputable def abs(i:ak):Sh11.Innings:=
 ⟨i.side,i.runs,i.wides,i.noBalls,i.byes,i.legByes,i.qO,i.balls,i.bats,i.aI.map (·.d9),i.falls,i.stands,opt i.e0,opt i.e1,opt i.bowler,i.Ah,i.overRuns,i.overBalls,i.overs.map (·.notes),i.ended⟩
noncomputable def fin(i:ak):Nat:=if i.bowler=11 then i.overs.length else i.overs.length-1
noncomputable def part(i:ak):Nat:=if i.bowler=11 then 0 else i.overBalls
structure PU(x:Bat):Prop where
 fresh:x.place=0→x.how=0
 none:x.how=0∨x.how=9→x.bowler=11∧x.fielder=11
structure Ok(i:ak):Prop where
 len:4≤i.len∧i.len≤8
 bats:i.bats.length=11
 aI:i.aI.length=11
 e0:i.e0≤11
 e1:i.e1≤11
 ne:i.e0≠11→i.e0≠i.e1
 s0:∀ x,i.bats[i.e0]?=some x→x.how=0∧x.place≠0
 s1:∀ x,i.bats[i.e1]?=some x→x.how=0∧x.place≠0
 bowler:i.bowler≤11
 over:i.bowler≠11→∃ os x,i.overs=os++[x]∧x.bowler=i.bowler∧x.balls<i.len
 count:i.balls=i.len*i.fin+i.part
 PN:∀ p f,i.aI[p]?=some f→f.d9.balls+(if p=i.bowler then i.len else 0)=i.len*f.overs+(if p=i.bowler then i.part else 0)
 wickets:i.wickets=i.abs.wickets
 eW:i.eW=(i.bats.filter fun b=>b.place != 0).length
 Oo:∀ x,x∈i.bats→PU x
 stands:i.stands≠[]
end ak
end aq
namespace aq
open Sh11 (Bat Bowl Fall Stand Ball Rules)
structure ku(b:Ball):Prop where
 kind:b.kind≤2
 off:b.off≤2
 runs:b.runs≤9
 line:b.line≤1
 how:b.how≤8
 out:b.out≤1
 end_:b.end_≤1
 fielder:b.fielder≤11
 wide:b.kind=1→b.off=0
 over:b.line=1→b.how=0∧(b.runs=4∨b.runs=6)
 run:b.how=6∨b.how=7∨(b.out=0∧b.end_=0)
theorem Kj{b:Ball}(h:b.ok=true):ku b:=by
 unfold Sh11.Ball.ok at h;simp only[Bool.and_eq_true,decide_eq_true_eq]at h;obtain⟨⟨h1,h2,h3,h4,h5,h6,h7,h8⟩,hk,ho,hl,ha,hr,hf⟩:=h;refine⟨h1,h2,h3,h4,h5,h6,h7,h8,fun e=>?_,fun e=>?_,hr⟩
 ·rw[if_pos e]at hk;simp only[Bool.and_eq_true,beq_iff_eq]at hk;exact hk.2
 ·rcases hl with z|⟨z,y⟩
  ·omega
  ·refine⟨z,?_⟩;rcases y with y|⟨y,_⟩
   ·exact .inl y
   ·exact .inr y
theorem Kp{n:Nat}(h:n≤8)(h0:n≠0):Sh11.atOnce n=true↔¬(n=6∨n=7):=by
 unfold Sh11.atOnce;have:n=1∨n=2∨n=3∨n=4∨n=5∨n=6∨n=7∨n=8:=by omega
 rcases this with e|e|e|e|e|e|e|e<;>subst e<;>decide
theorem all_eq(b:Ball):b.all=cF b:=by unfold Sh11.Ball.all cF extra;omega
theorem IG{b:Ball}(h:ku b):b.conceded=bc b:=by
 unfold Sh11.Ball.conceded bc extra
 congr 1
 by_cases e:b.kind=1
 ·rw[if_pos (.inl e),if_pos (h.wide e)]
 ·by_cases e2:b.off=0
  ·rw[if_pos (.inr e2),if_pos e2]
  ·rw[if_neg (by intro z;rcases z with z|z;exact e z;exact e2 z),if_neg e2]
theorem QA(b:Ball):b.hit=fR b:=by
 unfold Sh11.Ball.hit fR g8;by_cases e:b.kind=1
 ·simp[e]
 ·by_cases e2:b.off=0<;>simp[e,e2]
theorem Po(b:Ball)(x:Bat):({ x with runs:=x.runs+b.hit,balls:=x.balls+(if b.kind=1 then 0 else 1),fours:=x.fours+(if b.line=1∧b.hit=4 then 1 else 0),sixes:=x.sixes+(if b.line=1∧b.hit=6 then 1 else 0) }:Bat)=face b x:=by
 unfold face;rw[QA];unfold boundary fR g8;by_cases e:b.kind=1
 ·simp[e]
 ·by_cases e2:b.off=0
  ·by_cases e3:b.line=1
   ·by_cases e4:b.runs=4<;>by_cases e6:b.runs=6<;>simp_all
   ·simp[e,e2,e3]
  ·simp[e,e2]
theorem gP{α β:Type}(g:α→β)(f:α→α)(f':β→β)(h:∀ x,g (f x)=f' (g x)):∀(l:List α)(i:Nat),(l.modify i f).map g=(l.map g).modify i f'
 |[],i=>by cases i<;>rfl
 |a::r,0=>by rw[List.modify_zero_cons,List.map_cons,List.map_cons,List.modify_zero_cons,h]
 |a::r,i+1=>by rw[List.modify_succ_cons,List.map_cons,List.map_cons,List.modify_succ_cons,gP g f f' h r i]
theorem rz{α:Type}(f g:α→α):∀(l:List α)(i:Nat),(l.modify i f).modify i g=l.modify i fun x=>g (f x)
 |[],i=>by cases i<;>rfl
 |a::r,0=>by rw[List.modify_zero_cons,List.modify_zero_cons,List.modify_zero_cons]
 |a::r,i+1=>by rw[List.modify_succ_cons,List.modify_succ_cons,List.modify_succ_cons,rz f g r i]
theorem fX{α:Type}{f g:α→α}(l:List α)(i:Nat)(h:∀ x,l[i]?=some x→f x=g x):l.modify i f=l.modify i g:=by
 induction l generalizing i with
 |nil=>cases i<;>rfl
 |cons a r ih=>
  cases i with
  |zero=>rw[List.modify_zero_cons,List.modify_zero_cons,h a rfl]
  |succ i=>rw[List.modify_succ_cons,List.modify_succ_cons,ih i fun x hx=>h x (by simpa using hx)]
theorem cu{α:Type}(f:α→α)(l:List α)(i:Nat):(l.modify i f)[i]?=(l[i]?).map f:=by
 rw[List.getElem?_modify];simp
theorem bT{α:Type}(f:α→α)(l:List α){i j:Nat}(h:i≠j):(l.modify i f)[j]?=l[j]?:=by
 rw[List.getElem?_modify];simp[h]
theorem dG{α:Type}(f:α→α)(l:List α)(i j:Nat):(l.modify i f)[j]?=if i=j then(l[j]?).map f else l[j]?:=by
 by_cases h:i=j
 ·subst h;rw[if_pos rfl,cu]
 ·rw[if_neg h,bT f l h]
theorem eI{α:Type}(p:α→Bool)(f:α→α):∀(l:List α)(i:Nat)(x:α),l[i]?=some x→
  ((l.modify i f).filter p).length+(if p x=true then 1 else 0)=(l.filter p).length+(if p (f x)=true then 1 else 0)
 |[],i,x,h=>by simp at h
 |a::r,0,x,h=>by
  have e:a=x:=by simpa using h
  subst e;rw[List.modify_zero_cons,List.filter_cons,List.filter_cons]
  cases h1:p a<;>cases h2:p (f a)<;>simp
 |a::r,i+1,x,h=>by
  have ih:=eI p f r i x (by simpa using h);rw[List.modify_succ_cons,List.filter_cons,List.filter_cons]
  cases h1:p a
  ·simpa using ih
  ·simp only[if_true,List.length_cons];omega
theorem mem_modify{α:Type}{P:α→Prop}{f:α→α}{l:List α}{i:Nat}(h:∀ x∈l,P x)(hf:∀ x,l[i]?=some x→P (f x)):∀ x∈l.modify i f,P x:=by
 intro x hx;obtain⟨j,hj⟩:=List.mem_iff_getElem?.mp hx;rw[dG]at hj;by_cases e:i=j
 ·subst e;rw[if_pos rfl]at hj
  cases q:l[i]? with
  |none=>rw[q]at hj;cases hj
  |some y=>
   rw[q]at hj;have e:f y=x:=Option.some.inj hj;subst e;exact hf y q
 ·rw[if_neg e]at hj;exact h x (List.mem_of_getElem? hj)
theorem j5(c:Prop)[Decidable c](n k:Nat):(if c then n+k else n)=n+(if c then k else 0):=by split<;>rfl
theorem Kz(b:Ball):(a7 b=true)=(1≤b.how∧b.how≤5):=by
 unfold a7;simp only[Bool.and_eq_true,bne_iff_ne,decide_eq_true_eq,eq_iff_iff,ne_eq];omega
noncomputable def HC(b:Ball)(m:Nat)(y:Bowl):Bowl:={ y with balls:=y.balls+b.fair,runs:=y.runs+bc b,wickets:=y.wickets+(if 1≤b.how∧b.how≤5 then 1 else 0),wides:=y.wides+(if b.kind=1 then 1 else 0),noBalls:=y.noBalls+(if b.kind=2 then 1 else 0),maidens:=y.maidens+m }
theorem uI(b:Ball)(y:Ka):(dA b y).d9=HC b 0 y.d9:=by
 unfold dA HC Sh11.Ball.fair;simp only[j5,Kz];rfl
theorem Fx{α:Type}(l:List α)(f:α→α):Sh11.changed l (l.length-1) f=gI f l:=gg _ _ _
theorem zU(b:Ball)(x:Stand):({ x with runs:=x.runs+b.all,balls:=x.balls+b.fair }:Stand)=gF b x:=by
 unfold gF Sh11.Ball.fair;rw[all_eq,j5]
namespace ak
theorem ff{n:Nat}(h:n≠11):opt n=some n:=if_neg h
theorem tW:opt 11=none:=if_pos rfl
theorem mn{i:ak}{os:List Over}{x:Over}(h:i.overs=os++[x]):i.overBalls=x.balls∧i.overRuns=x.runs:=by
 unfold overBalls overRuns;rw[h];simp
noncomputable def b8(b:Ball)(s o:Nat):Nat×Nat:=
 if b.how≠0 then(if b.end_=0 then(11,if b.out=0 then o else s)else(if b.out=0 then o else s,11))else if b.runs % 2=1 then(o,s)else(s,o)
theorem MB{b:Ball}(h:ku b){s o:Nat}(hs:s≠11)(ho:o≠11):b.ends s o=(opt (b8 b s o).1,opt (b8 b s o).2):=by
 unfold Sh11.Ball.ends b8;by_cases e:b.how=0
 ·simp only[e,if_true,ne_eq,not_true_eq_false,if_false];by_cases e2:b.runs % 2=1
  ·have el:b.line=0:=by
    have:=h.line;by_cases z:b.line=1
    ·rcases(h.over z).2 with q|q<;>rw[q]at e2<;>cases e2
    ·omega
   rw[if_pos ⟨el,e2⟩,if_pos e2,ff hs,ff ho]
  ·rw[if_neg (fun z=>e2 z.2),if_neg e2,ff hs,ff ho]
 ·rw[if_neg e,if_pos (show b.how≠0 from e)];by_cases a:Sh11.atOnce b.how=true
  ·have hr:=h.run;have na:=(Kp h.how e).mp a;have eo:b.out=0∧b.end_=0:=by
    rcases hr with z|z|z
    ·exact absurd (.inl z) na
    ·exact absurd (.inr z) na
    ·exact z
   rw[if_pos a,if_pos eo.2,if_pos eo.1];rw[tW,ff ho]
  ·rw[if_neg a];simp only[];by_cases e1:b.end_=0<;>by_cases e2:b.out=0<;>simp[e1,e2,tW,ff hs,ff ho]
theorem Mc(b:Ball)(y:Ka):(Hz (dA b y)).d9=HC b 1 y.d9:=by
 show({ (dA b y).d9 with maidens:=(dA b y).d9.maidens+1 }:Bowl)=_;rw[uI];rfl
theorem u9(b:Ball)(n:Nat):(if b.kind=0 then n+1 else n)=n+b.fair:=j5 _ _ _
noncomputable def qz(b:Ball)(e0 e1:Nat):Nat:=if b.out=0 then e0 else e1
noncomputable def b5(i:ak)(b:Ball)(os:List Over)(x:Over)(st:List Stand)(t:Stand):ak:=
 { i with
  bats:=if b.how=0 then i.bats.modify i.e0 (face b)else(i.bats.modify i.e0 (face b)).modify (qz b i.e0 i.e1) (leave b.how (if a7 b=true then i.bowler else 11) b.fielder),
  aI:=if x.balls+b.fair=i.len∧x.runs+bc b=0 then(i.aI.modify i.bowler (dA b)).modify i.bowler Hz else i.aI.modify i.bowler (dA b),
  e0:=if x.balls+b.fair=i.len then(b8 b i.e0 i.e1).2 else(b8 b i.e0 i.e1).1,
  e1:=if x.balls+b.fair=i.len then(b8 b i.e0 i.e1).1 else(b8 b i.e0 i.e1).2,
  bowler:=if x.balls+b.fair=i.len then 11 else i.bowler,
  overs:=os++[b7 b x],
  falls:=if b.how=0 then i.falls else i.falls++[⟨i.runs+cF b,qz b i.e0 i.e1,i.balls+b.fair⟩],
  stands:=st++[gF b t],
  runs:=i.runs+cF b,
  wickets:=if b.how=0 then i.wickets else i.wickets+1,
  balls:=i.balls+b.fair,
  wides:=if b.kind=1 then i.wides+cF b else i.wides,
  noBalls:=if b.kind=2 then i.noBalls+extra b else i.noBalls,
  byes:=if b.off=1 then i.byes+b.runs else i.byes,
  legByes:=if b.off=2 then i.legByes+b.runs else i.legByes }
theorem gO{i:ak}{b:Ball}{os:List Over}{x:Over}{st:List Stand}{t:Stand}(eo:i.overs=os++[x])(es:i.stands=st++[t]):i.deliver b=b5 i b os x st t:=by
 obtain⟨side,len,bats,aI,e0,e1,eW,bowler,overs,falls,stands,runs,wickets,balls,wides,noBalls,byes,legByes,qO,ended⟩:=i
 simp only at eo es
 subst eo es;have oB:(b7 b x).balls=x.balls+b.fair:=u9 b _;have oR:(b7 b x).runs=x.runs+bc b:=rfl;have gB':((os++[b7 b x]).getLast?.map (·.balls)).getD 0=x.balls+b.fair:=by simp[oB]
 have gR':((os++[b7 b x]).getLast?.map (·.runs)).getD 0=x.runs+bc b:=by simp[oR]
 unfold deliver b5;by_cases hh:b.how=0
 ·have en2:b8 b e0 e1=if b.runs % 2=1 then(e1,e0)else(e0,e1):=by unfold b8;rw[if_neg (by simpa using hh)]
  by_cases q:b.runs % 2=1<;>by_cases hd:x.balls+b.fair=len<;>by_cases h0:x.runs+bc b=0<;>
   simp only[BM,ie,aJ,hh,ne_eq,not_true_eq_false,if_false,u9,en2,q,if_true,c9,overBalls,overRuns,gB',gR',hd,gh,h0,and_self,and_true,and_false,false_and]
 ·have en2:b8 b e0 e1=if b.end_=0 then(11,if b.out=0 then e1 else e0)else(if b.out=0 then e1 else e0,11):=by unfold b8;rw[if_pos (by simpa using hh)]
  by_cases q:b.end_=0<;>by_cases hd:x.balls+b.fair=len<;>by_cases h0:x.runs+bc b=0<;>
   simp only[BM,ie,aJ,hh,ne_eq,not_false_eq_true,if_false,u9,en2,q,if_true,c9,overBalls,overRuns,gB',gR',hd,gh,h0,eY,lH,qz,and_self,and_true,and_false,false_and]
theorem Jk(c:Prop)[Decidable c](a b:Nat):opt (if c then a else b)=if c then opt a else opt b:=by split<;>rfl
theorem Mr{i:ak}{b:Ball}{os:List Over}{x:Over}{st:List Stand}{t:Stand}{r:Rules}(eo:i.overs=os++[x])(es:i.stands=st++[t])(hb:ku b)(hr:r.balls=i.len)(h0:i.e0≠11)(h1:i.e1≠11)(hw:i.bowler≠11)(ew:x.bowler=i.bowler) :
  (b5 i b os x st t).abs=i.abs.bowled r i.bowler i.e0 i.e1 b:=by
 obtain⟨side,len,bats,aI,e0,e1,eW,bowler,overs,falls,stands,runs,wickets,balls,wides,noBalls,byes,legByes,qO,ended⟩:=i
 simp only at eo es hr h0 h1 hw ew
 subst eo es;have en:=MB hb h0 h1;have oB:(b7 b x).balls=x.balls+b.fair:=u9 b _;have e1':(fun y:Stand=>({ y with runs:=y.runs+b.all,balls:=y.balls+b.fair }:Stand))=gF b:=funext (zU b);have e2':(fun y:Bat=>({ y with runs:=y.runs+b.hit,balls:=y.balls+(if b.kind=1 then 0 else 1),fours:=y.fours+(if b.line=1∧b.hit=4 then 1 else 0),sixes:=y.sixes+(if b.line=1∧b.hit=6 then 1 else 0) }:Bat))=face b:=funext (Po b);have gB:((os++[x]).getLast?.map (·.balls)).getD 0=x.balls:=by simp
 have gR:((os++[x]).getLast?.map (·.runs)).getD 0=x.runs:=by simp
 have gB':((os++[b7 b x]).getLast?.map (·.balls)).getD 0=x.balls+b.fair:=by simp[oB]
 have gR':((os++[b7 b x]).getLast?.map (·.runs)).getD 0=x.runs+bc b:=by simp[b7]
 have dl:∀ y:Over,(os++[y]).dropLast=os:=fun y=>by simp
 have ll:∀ y:Over,(os++[y]).getLast?=some y:=fun y=>by simp
 have eD:(x.balls+b.fair==r.balls)=decide (x.balls+b.fair=len):=by rw[hr];rfl
 unfold Sh11.Innings.bowled;simp only[abs,b5,overBalls,overRuns,Ah,dl,ll,List.map_append,List.map_cons,List.map_nil,hw,if_false,e2',IG hb,Fx,en,Option.map_some,Option.getD_some,eD,oB,ie,decide_eq_true_eq,Sh11.Innings.mk.injEq,Jk,true_and,and_true,tW,ff hw];refine⟨?_,?_,?_,?_,?_,?_,?_,?_,?_,?_,?_⟩
 ·exact congrArg _ (all_eq b).symm
 ·rw[j5];congr 1;by_cases k:b.kind=1<;>simp[k,cF,extra];omega
 ·rw[j5];congr 1;by_cases k:b.kind=2<;>simp[k,extra]
 ·exact j5 _ _ _
 ·exact j5 _ _ _
 ·by_cases hh:b.how=0
  ·simp only[hh,if_true,gg]
  ·have eL:(fun y:Bat=>({ y with how:=b.how,bowler:=if b.how≤5 then bowler else Sh11.NOBODY,fielder:=b.fielder }:Bat))=leave b.how (if a7 b=true then bowler else 11) b.fielder:=by
    funext y
    unfold leave;have:(1≤b.how∧b.how≤5)=(b.how≤5):=by rw[eq_iff_iff];omega
    simp only[Kz,this];rfl
   simp only[hh,if_false,gg,qz,eL]
 ·by_cases hm:x.balls+b.fair=len∧x.runs+bc b=0
  ·rw[if_pos hm,gg,rz,gP _ _ _ (Mc b)];simp only[hm,and_self,if_true];rfl
  ·rw[if_neg hm,gg,gP _ _ _ (uI b)];simp only[hm,if_false];rfl
 ·by_cases hh:b.how=0
  ·simp only[hh,if_true]
  ·simp only[hh,if_false,qz,all_eq]
 ·rw[zU]
 ·by_cases hd:x.balls+b.fair=len
  ·simp only[hd,if_true];exact congrArg some ew
  ·simp only[hd,if_false,hw]
 ·exact⟨rfl,rfl⟩
theorem Jy{i:ak}{b:Ball}{r:Rules}(h:i.Ok)(hb:ku b)(hr:r.balls=i.len)(h0:i.e0≠11)(h1:i.e1≠11)(hw:i.bowler≠11) :
  (i.deliver b).abs=i.abs.bowled r i.bowler i.e0 i.e1 b:=by
 obtain⟨os,x,eo,ew,hx⟩:=h.over hw;obtain⟨st,t,es⟩:∃ st t,i.stands=st++[t]:=by
  rcases a8 i.stands with z|z
  ·exact absurd z h.stands
  ·exact z
 rw[gO eo es];exact Mr eo es hb hr h0 h1 hw ew
end ak
end aq
namespace aq
open Sh11 (Bat Bowl Fall Stand Ball Rules)
theorem jw(b:Ball)(x:Bat):(face b x).how=x.how∧(face b x).place=x.place∧(face b x).bowler=x.bowler∧(face b x).fielder=x.fielder:=by
 unfold face;by_cases h:b.kind=1
 ·rw[if_pos h];exact⟨rfl,rfl,rfl,rfl⟩
 ·rw[if_neg h];exact⟨rfl,rfl,rfl,rfl⟩
theorem uf{α:Type}(p:α→Bool)(f:α→α)(h:∀ x,p (f x)=p x)(l:List α)(i:Nat):((l.modify i f).filter p).length=(l.filter p).length:=by
 cases q:l[i]? with
 |none=>
  have:l.modify i f=l:=by
   have:=fX (f:=f) (g:=id) l i (fun x hx=>by rw[q]at hx;cases hx);rw[this];exact List.modify_id ..
  rw[this]
 |some x=>
  have:=eI p f l i x q;rw[h x]at this;omega
namespace ak
theorem mL(i:ak):i.abs.wickets=(i.bats.filter fun b=>Sh11.isOut b.how).length:=rfl
theorem ir{i:ak}(h:i.Ok){p:Nat}(hp:p≤10):∃ x,i.bats[p]?=some x:=⟨i.bats[p]'(by rw[h.bats];omega),List.getElem?_eq_getElem _⟩
theorem Ot{n:Nat}(h:n≤8)(h0:n≠0):Sh11.isOut n=true:=by
 unfold Sh11.isOut;exact decide_eq_true (.inl ⟨by omega,h⟩)
theorem LI(b:Ball):b.fair≤1:=by unfold Sh11.Ball.fair;split<;>omega
theorem Oj{i:ak}{b:Ball}{os:List Over}{x:Over}{st:List Stand}{t:Stand}(h:i.Ok)(eo:i.overs=os++[x])(hb:ku b)(h0:i.e0≠11)(h1:i.e1≠11)(hw:i.bowler≠11)(ew:x.bowler=i.bowler)(hx:x.balls<i.len) :
  (b5 i b os x st t).Ok:=by
 have hne:=h.ne h0;have h0':i.e0≤10:=by have:=h.e0;omega
 have h1':i.e1≤10:=by have:=h.e1;omega
 obtain⟨x0,g0⟩:=ir h h0';obtain⟨x1,g1⟩:=ir h h1';have a0:=h.s0 x0 g0;have a1:=h.s1 x1 g1;have oB:(b7 b x).balls=x.balls+b.fair:=u9 b _;have fl:=LI b;have hc:=h.count;have efin:i.fin=os.length:=by unfold fin;rw[if_neg hw,eo];simp
 have epart:i.part=x.balls:=by unfold part;rw[if_neg hw,(mn eo).1]
 rw[efin,epart]at hc;have hlen:(b5 i b os x st t).bats.length=11:=by
  unfold b5;simp only[]
  split<;>simp[h.bats]
 have gone_ne:b.how≠0→∀ y,(b5 i b os x st t).bats[(if b.out=0 then i.e1 else i.e0)]?=some y→y.how=0∧y.place≠0:=by
  intro hh y hy;unfold b5 at hy;simp only[if_neg hh,qz]at hy;by_cases ho:b.out=0
  ·simp only[ho,if_true]at hy;rw[bT _ _ hne,bT _ _ hne,g1]at hy;cases hy;exact a1
  ·simp only[ho,if_false]at hy;rw[bT _ _ (Ne.symm hne),cu,g0]at hy;have e:face b x0=y:=Option.some.inj hy;subst e;rw[(jw b x0).1,(jw b x0).2.1];exact a0
 have kept:b.how=0→∀ y,((b5 i b os x st t).bats[i.e0]?=some y∨(b5 i b os x st t).bats[i.e1]?=some y)→y.how=0∧y.place≠0:=by
  intro hh y hy;unfold b5 at hy;simp only[if_pos hh]at hy;rcases hy with hy|hy
  ·rw[cu,g0]at hy;have e:face b x0=y:=Option.some.inj hy;subst e;rw[(jw b x0).1,(jw b x0).2.1];exact a0
  ·rw[bT _ _ hne,g1]at hy;cases hy;exact a1
 have no11:∀ y,(b5 i b os x st t).bats[11]?=some y→y.how=0∧y.place≠0:=by
  intro y hy;have:(b5 i b os x st t).bats[11]?=none:=List.getElem?_eq_none_iff.mpr (by omega);rw[this]at hy;cases hy
 have ends:∀ y,((b5 i b os x st t).bats[(b8 b i.e0 i.e1).1]?=some y∨(b5 i b os x st t).bats[(b8 b i.e0 i.e1).2]?=some y)→y.how=0∧y.place≠0:=by
  intro y hy;unfold b8 at hy;by_cases hh:b.how=0
  ·rw[if_neg (by simpa using hh)]at hy;by_cases q:b.runs % 2=1
   ·rw[if_pos q]at hy;exact kept hh y (hy.symm)
   ·rw[if_neg q]at hy;exact kept hh y hy
  ·rw[if_pos hh]at hy;by_cases q:b.end_=0
   ·rw[if_pos q]at hy;rcases hy with hy|hy
    ·exact no11 y hy
    ·exact gone_ne hh y hy
   ·rw[if_neg q]at hy;rcases hy with hy|hy
    ·exact gone_ne hh y hy
    ·exact no11 y hy
 have ends2:(b8 b i.e0 i.e1).1≤11∧(b8 b i.e0 i.e1).2≤11∧(b8 b i.e0 i.e1).1≠(b8 b i.e0 i.e1).2:=by
  unfold b8
  repeat' split
  all_goals (simp only[];omega)
 refine⟨h.len,hlen,?_,?_,?_,?_,?_,?_,?_,?_,?_,?_,?_,?_,?_,?_⟩
 ·unfold b5;simp only[];split<;>simp[h.aI]
 ·unfold b5;simp only[];split<;>omega
 ·unfold b5;simp only[];split<;>omega
 ·intro _;unfold b5;simp only[];split
  ·exact Ne.symm ends2.2.2
  ·exact ends2.2.2
 ·intro y hy;apply ends y;have e:(b5 i b os x st t).e0=if x.balls+b.fair=i.len then(b8 b i.e0 i.e1).2 else(b8 b i.e0 i.e1).1:=rfl
  rw[e]at hy
  split at hy
  ·exact .inr hy
  ·exact .inl hy
 ·intro y hy;apply ends y;have e:(b5 i b os x st t).e1=if x.balls+b.fair=i.len then(b8 b i.e0 i.e1).1 else(b8 b i.e0 i.e1).2:=rfl
  rw[e]at hy
  split at hy
  ·exact .inl hy
  ·exact .inr hy
 ·have:=h.bowler;unfold b5;simp only[];split<;>omega
 ·intro hn;have e:(b5 i b os x st t).bowler=if x.balls+b.fair=i.len then 11 else i.bowler:=rfl
  rw[e]at hn ⊢
  split at hn
  ·exact absurd rfl hn
  ·rename_i hd;rw[if_neg hd];refine⟨os,b7 b x,rfl,ew,?_⟩;rw[oB];show x.balls+b.fair<i.len;omega
 ·have e:(b5 i b os x st t).bowler=if x.balls+b.fair=i.len then 11 else i.bowler:=rfl
  have e2:(b5 i b os x st t).overs=os++[b7 b x]:=rfl;show i.balls+b.fair=i.len*_+_;unfold fin part;rw[e,(mn e2).1,e2,oB];by_cases hd:x.balls+b.fair=i.len
  ·rw[if_pos hd,if_pos rfl,if_pos rfl,List.length_append,List.length_singleton,Nat.mul_add];omega
  ·rw[if_neg hd,if_neg hw,if_neg hw,List.length_append,List.length_singleton,Nat.add_sub_cancel];omega
 ·intro p f hf;have e:(b5 i b os x st t).bowler=if x.balls+b.fair=i.len then 11 else i.bowler:=rfl
  have e2:(b5 i b os x st t).overs=os++[b7 b x]:=rfl;have ef:(b5 i b os x st t).aI=if x.balls+b.fair=i.len∧x.runs+bc b=0 then(i.aI.modify i.bowler (dA b)).modify i.bowler Hz else i.aI.modify i.bowler (dA b):=rfl
  have p10:p≤10:=by
   have:p<(b5 i b os x st t).aI.length:=(List.getElem?_eq_some_iff.mp hf).1;rw[ef]at this;have l11:=h.aI
   split at this<;>simp at this<;>omega
  obtain⟨f0,hf0⟩:∃ f0,i.aI[p]?=some f0:=⟨i.aI[p]'(by rw[h.aI];omega),List.getElem?_eq_getElem _⟩
  have hp:=h.PN p f0 hf0;rw[epart]at hp;have key:f.overs=f0.overs∧f.d9.balls=f0.d9.balls+(if p=i.bowler then b.fair else 0):=by
   have one:∀ g,(i.aI.modify i.bowler (dA b))[p]?=some g→g.overs=f0.overs∧g.d9.balls=f0.d9.balls+(if p=i.bowler then b.fair else 0):=by
    intro g hg;rw[dG,hf0]at hg;by_cases hpb:i.bowler=p
    ·rw[if_pos hpb]at hg;have e:dA b f0=g:=Option.some.inj hg;subst e;rw[if_pos hpb.symm];exact⟨rfl,u9 b _⟩
    ·rw[if_neg hpb]at hg;cases hg;rw[if_neg (fun z=>hpb z.symm)];exact⟨rfl,rfl⟩
   rw[ef]at hf
   split at hf
   ·rw[dG]at hf
    split at hf
    ·cases q:(i.aI.modify i.bowler (dA b))[p]? with
     |none=>rw[q]at hf;cases hf
     |some g=>
      rw[q]at hf;have e:Hz g=f:=Option.some.inj hf;subst e;exact one g q
    ·exact one f hf
   ·exact one f hf
  have hlen':(b5 i b os x st t).len=i.len:=rfl;unfold part;rw[key.1,key.2,e,(mn e2).1,oB,hlen'];by_cases hd:x.balls+b.fair=i.len
  ·rw[if_pos hd,if_pos rfl,if_neg (show¬p=11 by omega),if_neg (show¬p=11 by omega)];by_cases hpb:p=i.bowler
   ·rw[if_pos hpb,if_pos hpb]at hp;rw[if_pos hpb];omega
   ·rw[if_neg hpb,if_neg hpb]at hp;rw[if_neg hpb];omega
  ·rw[if_neg hd,if_neg hw];by_cases hpb:p=i.bowler
   ·simp only[if_pos hpb]at hp ⊢;omega
   ·simp only[if_neg hpb]at hp ⊢;omega
 ·rw[mL];have hwk:=h.wickets;rw[mL]at hwk;have c1:((i.bats.modify i.e0 (face b)).filter fun y=>Sh11.isOut y.how).length=(i.bats.filter fun y=>Sh11.isOut y.how).length:=uf _ _ (fun y=>by rw[(jw b y).1]) _ _;unfold b5;simp only[];by_cases hh:b.how=0
  ·simp only[hh,if_true];rw[c1,hwk]
  ·simp only[hh,if_false];obtain⟨y,hy,hy0⟩:∃ y,(i.bats.modify i.e0 (face b))[qz b i.e0 i.e1]?=some y∧y.how=0:=by
    unfold qz;by_cases ho:b.out=0
    ·rw[if_pos ho,cu,g0];exact⟨_,rfl,by rw[(jw b x0).1];exact a0.1⟩
    ·rw[if_neg ho,bT _ _ hne,g1];exact⟨_,rfl,a1.1⟩
   have c2:=eI (fun y=>Sh11.isOut y.how) (leave b.how (if a7 b=true then i.bowler else 11) b.fielder) _ _ y hy;have n1:Sh11.isOut y.how=false:=by rw[hy0];rfl
   have n2:Sh11.isOut (leave b.how (if a7 b=true then i.bowler else 11) b.fielder y).how=true:=Ot hb.how hh;simp only[n1,n2,if_true]at c2;rw[c1]at c2;simp only[Bool.false_eq_true,if_false]at c2;omega
 ·have hbn:=h.eW;unfold b5;simp only[];have c1:((i.bats.modify i.e0 (face b)).filter fun y=>y.place != 0).length=(i.bats.filter fun y=>y.place != 0).length:=uf _ _ (fun y=>by rw[(jw b y).2.1]) _ _;split
  ·rw[c1,hbn]
  ·rw[uf _ (leave b.how (if a7 b=true then i.bowler else 11) b.fielder) (fun y=>rfl),c1,hbn]
 ·have f1:∀ y∈i.bats.modify i.e0 (face b),PU y:=mem_modify h.Oo fun y hy=>by
   have hyo:=h.Oo y (List.mem_of_getElem? hy);obtain⟨q1,q2,q3,q4⟩:=jw b y;exact⟨by rw[q1,q2];exact hyo.fresh,by rw[q1,q3,q4];exact hyo.none⟩
  unfold b5;simp only[];split
  ·exact f1
  ·rename_i hh;refine mem_modify f1 fun y hy=>?_
   have hpl:y.place≠0:=by
    unfold qz at hy;by_cases ho:b.out=0
    ·rw[if_pos ho,cu,g0]at hy;have e:face b x0=y:=Option.some.inj hy;subst e;rw[(jw b x0).2.1];exact a0.2
    ·rw[if_neg ho,bT _ _ hne,g1]at hy;cases hy;exact a1.2
   refine⟨fun z=>absurd z hpl,fun z=>?_⟩;have:=hb.how;have z':b.how=0∨b.how=9:=z;omega
 ·show st++[gF b t]≠[]
  simp
theorem EU{i:ak}{b:Ball}(h:i.Ok)(hb:ku b)(h0:i.e0≠11)(h1:i.e1≠11)(hw:i.bowler≠11):(i.deliver b).Ok:=by
 obtain⟨os,x,eo,ew,hx⟩:=h.over hw;obtain⟨st,t,es⟩:∃ st t,i.stands=st++[t]:=by
  rcases a8 i.stands with z|z
  ·exact absurd z h.stands
  ·exact z
 rw[gO eo es];exact Oj h eo hb h0 h1 hw ew hx
end ak
end aq
namespace aq
open Sh11 (Bat Bowl Fall Stand Ball Rules)
namespace ak
theorem F2{i:ak}{p:Nat}(hw:i.bowler=11)(hp:p≤10) :
  (i.cj p).abs={ i.abs with bowler:=some p,overRuns:=0,overBalls:=0,notes:=i.abs.notes++[[]] }:=by
 obtain⟨side,len,bats,aI,e0,e1,eW,bowler,overs,falls,stands,runs,wickets,balls,wides,noBalls,byes,legByes,qO,ended⟩:=i
 simp only at hw
 subst hw;have hp':¬p=11:=by omega
 have eF:(aI.modify p fun x=>{ x with overs:=x.overs+1 }).map (·.d9)=aI.map (·.d9):=by
  rw[gP (·.d9) (fun x:Ka=>{ x with overs:=x.overs+1 }) id (fun x=>rfl)];exact List.modify_id ..
 unfold cj abs;simp only[Sh11.Innings.mk.injEq,true_and,eF,opt,hp',if_false,Ah,overRuns,overBalls,List.map_append,List.map_cons,List.map_nil,if_true];refine⟨by simp,by simp,by simp⟩
theorem GS{i:ak}{p:Nat}(h:i.Ok)(hw:i.bowler=11)(hp:p≤10):(i.cj p).Ok:=by
 have hp':¬p=11:=by omega
 have hl:=h.len;have ov:(i.cj p).overs=i.overs++[⟨p,0,0,[]⟩]:=rfl;have hc:=h.count;unfold fin part at hc;rw[if_pos hw,if_pos hw]at hc;refine⟨h.len,h.bats,?_,h.e0,h.e1,h.ne,h.s0,h.s1,?_,?_,?_,?_,h.wickets,h.eW,h.Oo,h.stands⟩
 ·show(i.aI.modify p _).length=11;rw[List.length_modify];exact h.aI
 ·show p≤11;omega
 ·intro _;refine⟨i.overs,⟨p,0,0,[]⟩,rfl,rfl,?_⟩;show 0<i.len;omega
 ·show i.balls=i.len*(if p=11 then _ else(i.overs++[_]).length-1)+(if p=11 then 0 else(i.cj p).overBalls)
  rw[if_neg hp',if_neg hp',(mn ov).1,List.length_append,List.length_singleton,Nat.add_sub_cancel];exact hc
 ·intro q f hf;have hf':(i.aI.modify p fun x=>{ x with overs:=x.overs+1 })[q]?=some f:=hf;rw[dG]at hf';have ep:(i.cj p).part=0:=by
   show(if p=11 then 0 else(i.cj p).overBalls)=0;rw[if_neg hp',(mn ov).1]
  rw[ep];show f.d9.balls+(if q=p then i.len else 0)=i.len*f.overs+(if q=p then 0 else 0)
  by_cases hq:p=q
  ·rw[if_pos hq]at hf'
   cases e:i.aI[q]? with
   |none=>rw[e]at hf';cases hf'
   |some f0=>
    rw[e]at hf';have e':({ f0 with overs:=f0.overs+1 }:Ka)=f:=Option.some.inj hf';subst e';have:=h.PN q f0 e;rw[hw,if_neg (show¬q=11 by omega),if_neg (show¬q=11 by omega)]at this;show f0.d9.balls+(if q=p then i.len else 0)=i.len*(f0.overs+1)+(if q=p then 0 else 0)
    rw[if_pos hq.symm,if_pos hq.symm,Nat.mul_add];omega
  ·rw[if_neg hq]at hf';have:=h.PN q f hf';have q11:¬q=11:=by
    intro z;have:q<i.aI.length:=(List.getElem?_eq_some_iff.mp hf').1;rw[h.aI]at this;omega
   rw[hw,if_neg q11,if_neg q11]at this;rw[if_neg (fun z=>hq z.symm),if_neg (fun z=>hq z.symm)];exact this
theorem jc{i:ak}{p:Nat}{x:Bat}(hx:i.bats[p]?=some x):i.gb p={ i with
  bats:=i.bats.modify p fun y=>{ y with place:=if y.place=0 then i.eW+1 else y.place,how:=0 },eW:=if x.place=0 then i.eW+1 else i.eW,
  e0:=if i.e0=11 then p else i.e0,e1:=if i.e0=11 then i.e1 else p,stands:=i.stands++[⟨if i.e0=11 then i.e1 else i.e0,p,0,0⟩] }:=by
 unfold gb;have eb:∀ j:ak,j.bats=i.bats→((j.bats[p]?).map (·.place)).getD 0=x.place:=fun j e=>by rw[e,hx];rfl
 have e1:x.place=0→(i.bats.modify p fun y=>({ y with place:=i.eW+1 }:Bat)).modify p (fun y=>{ y with how:=0 })=i.bats.modify p fun y=>{ y with place:=if y.place=0 then i.eW+1 else y.place,how:=0 }:=fun z=>by
  rw[rz];refine fX _ _ fun y hy=>?_
  rw[hx]at hy;cases hy;simp only[z,if_true]
 have e2:¬x.place=0→i.bats.modify p (fun y=>({ y with how:=0 }:Bat))=i.bats.modify p fun y=>{ y with place:=if y.place=0 then i.eW+1 else y.place,how:=0 }:=fun z=>by
  refine fX _ _ fun y hy=>?_
  rw[hx]at hy;cases hy;simp only[z,if_false]
 by_cases h0:i.e0=11
 ·simp only[h0,if_true];rw[eb _ rfl];by_cases z:x.place=0
  ·simp only[z,if_true,bG,e1 z]
  ·simp only[z,if_false,e2 z]
 ·simp only[h0,if_false];rw[eb _ rfl];by_cases z:x.place=0
  ·simp only[z,if_true,bG,e1 z]
  ·simp only[z,if_false,e2 z]
theorem Lu{i:ak}{p:Nat}(h:i.Ok)(hp:p≤10)(hs:i.aH=true):(i.gb p).abs=i.abs.came p:=by
 obtain⟨x,hx⟩:=ir h hp;rw[jc hx];have hb:=h.eW;have h0:=h.e0;have h1:=h.e1;obtain⟨side,len,bats,aI,e0,e1,eW,bowler,overs,falls,stands,runs,wickets,balls,wides,noBalls,byes,legByes,qO,ended⟩:=i
 simp only at hb h0 h1
 unfold aH at hs;simp only[Bool.or_eq_true,beq_iff_eq]at hs;have hp':¬p=11:=by omega
 unfold Sh11.Innings.came abs;simp only[gg,Sh11.Innings.mk.injEq,true_and,and_true,overRuns,overBalls,Ah,←hb];refine⟨?_,?_,?_,?_⟩
 ·refine fX _ _ fun y _=>?_
  by_cases z:y.place=0
  ·simp only[z,if_true,Nat.add_comm]
  ·simp only[z,if_false]
 ·by_cases z:e0=11
  ·subst z;simp only[if_true,tW,Option.getD_none];by_cases z1:e1=11
   ·subst z1;rfl
   ·rw[ff z1];rfl
  ·simp only[z,if_false,ff z,Option.getD_some]
 ·by_cases z:e0=11
  ·subst z;simp only[if_true,tW,ff hp',Option.isNone_none]
  ·simp only[z,if_false,ff z,Option.isNone_some,Bool.false_eq_true]
 ·by_cases z:e0=11
  ·subst z;simp only[if_true,tW,Option.isNone_none]
  ·simp only[z,if_false,ff z,Option.isNone_some,Bool.false_eq_true,ff hp']
theorem Mm{i:ak}{p:Nat}(h:i.Ok)(hp:p≤10)(hs:i.aH=true)(ha:∀ x,i.bats[p]?=some x→bI x=true):(i.gb p).Ok:=by
 obtain⟨x,hx⟩:=ir h hp;have hm:=ha x hx;unfold bI at hm;simp only[Bool.or_eq_true,beq_iff_eq]at hm;unfold aH at hs;simp only[Bool.or_eq_true,beq_iff_eq]at hs;have n0:i.e0≠p:=fun z=>by
  have:=h.s0 x (by rw[z];exact hx);omega
 have n1:i.e1≠p:=fun z=>by
  have:=h.s1 x (by rw[z];exact hx);omega
 rw[jc hx];have hbo:=h.Oo x (List.mem_of_getElem? hx);have h0:=h.e0;have h1:=h.e1;have atp:∀ y,(i.bats.modify p fun y=>({ y with place:=if y.place=0 then i.eW+1 else y.place,how:=0 }:Bat))[p]?=some y→y.how=0∧y.place≠0:=fun y hy=>by
  rw[cu,hx]at hy;have e:({ x with place:=if x.place=0 then i.eW+1 else x.place,how:=0 }:Bat)=y:=Option.some.inj hy;subst e;refine⟨rfl,?_⟩;show(if x.place=0 then i.eW+1 else x.place)≠0
  split<;>omega
 have at0:∀ y,(i.bats.modify p fun y=>({ y with place:=if y.place=0 then i.eW+1 else y.place,how:=0 }:Bat))[i.e0]?=some y→y.how=0∧y.place≠0:=fun y hy=>by
  rw[bT _ _ (Ne.symm n0)]at hy;exact h.s0 y hy
 have at1:∀ y,(i.bats.modify p fun y=>({ y with place:=if y.place=0 then i.eW+1 else y.place,how:=0 }:Bat))[i.e1]?=some y→y.how=0∧y.place≠0:=fun y hy=>by
  rw[bT _ _ (Ne.symm n1)]at hy;exact h.s1 y hy
 refine⟨h.len,?_,h.aI,?_,?_,?_,?_,?_,h.bowler,h.over,h.count,h.PN,?_,?_,?_,?_⟩
 ·show(i.bats.modify p _).length=11;rw[List.length_modify];exact h.bats
 ·show(if i.e0=11 then p else i.e0)≤11
  split<;>omega
 ·show(if i.e0=11 then i.e1 else p)≤11
  split<;>omega
 ·intro _;show(if i.e0=11 then p else i.e0)≠(if i.e0=11 then i.e1 else p)
  split
  ·exact Ne.symm n1
  ·exact n0
 ·intro y hy;have hy':(i.bats.modify p fun y=>({ y with place:=if y.place=0 then i.eW+1 else y.place,how:=0 }:Bat))[if i.e0=11 then p else i.e0]?=some y:=hy
  split at hy'
  ·exact atp y hy'
  ·exact at0 y hy'
 ·intro y hy;have hy':(i.bats.modify p fun y=>({ y with place:=if y.place=0 then i.eW+1 else y.place,how:=0 }:Bat))[if i.e0=11 then i.e1 else p]?=some y:=hy
  split at hy'
  ·exact at1 y hy'
  ·exact atp y hy'
 ·have hwk:=h.wickets;rw[mL]at hwk ⊢;show i.wickets=((i.bats.modify p fun y=>({ y with place:=if y.place=0 then i.eW+1 else y.place,how:=0 }:Bat)).filter fun b=>Sh11.isOut b.how).length;have c:=eI (fun b=>Sh11.isOut b.how) (fun y:Bat=>{ y with place:=if y.place=0 then i.eW+1 else y.place,how:=0 }) i.bats p x hx;have q1:Sh11.isOut x.how=false:=by
   have:x.how=0∨x.how=9:=by
    rcases hm with z|z
    ·exact .inl (hbo.fresh z)
    ·exact .inr z
   rcases this with z|z<;>rw[z]<;>rfl
  have q2:Sh11.isOut 0=false:=rfl;simp only[q1,q2,Bool.false_eq_true,if_false]at c;omega
 ·have hb:=h.eW;show(if x.place=0 then i.eW+1 else i.eW)=((i.bats.modify p fun y=>({ y with place:=if y.place=0 then i.eW+1 else y.place,how:=0 }:Bat)).filter fun b=>b.place != 0).length;have c:=eI (fun b:Bat=>b.place != 0) (fun y:Bat=>{ y with place:=if y.place=0 then i.eW+1 else y.place,how:=0 }) i.bats p x hx;by_cases z:x.place=0
  ·simp only[z,if_true]at c ⊢;simp only[bne_self_eq_false,Bool.false_eq_true,if_false]at c;rw[if_pos (by simp)]at c;omega
  ·simp only[z,if_false]at c ⊢;rw[if_pos (by simpa using z)]at c;omega
 ·refine mem_modify h.Oo fun y hy=>?_
  rw[hx]at hy;cases hy;refine⟨fun _=>rfl,fun _=>?_⟩;show x.bowler=11∧x.fielder=11;refine hbo.none ?_;rcases hm with z|z
  ·exact .inl (hbo.fresh z)
  ·exact .inr z
 ·show i.stands++[_]≠[]
  simp
theorem K5{i:ak}{e hurt:Nat}(h:i.Ok)(h0:i.e0≠11)(h1:i.e1≠11) :
  (i.retire e hurt).abs=i.abs.went e (((if e=0 then i.abs.striker else i.abs.other)).getD Sh11.NOBODY) (hurt==1):=by
 have s0:=h.s0;have s1:=h.s1;have hbo:=h.Oo;obtain⟨side,len,bats,aI,e0,e1,eW,bowler,overs,falls,stands,runs,wickets,balls,wides,noBalls,byes,legByes,qO,ended⟩:=i
 simp only at h0 h1 s0 s1 hbo
 have ep:((if e=0 then opt e0 else opt e1)).getD Sh11.NOBODY=if e=0 then e0 else e1:=by
  rw[ff h0,ff h1]
  split<;>rfl
 have lv:∀ n:Nat,bats.modify (if e=0 then e0 else e1) (leave n 11 11)=bats.modify (if e=0 then e0 else e1) fun y=>{ y with how:=n }:=fun n=>by
  refine fX _ _ fun y hy=>?_
  have hy0:y.how=0:=by
   by_cases z:e=0
   ·rw[if_pos z]at hy;exact (s0 y hy).1
   ·rw[if_neg z]at hy;exact (s1 y hy).1
  have:=(hbo y (List.mem_of_getElem? hy)).none (.inl hy0);unfold leave;rw[←this.1];rw[this.1]
  congr 1
  exact this.2.symm
 unfold retire Sh11.Innings.went;by_cases hh:hurt=1
 ·simp only[hh,if_true,abs,ep,lv,gg,beq_self_eq_true,Sh11.Innings.mk.injEq,true_and,and_true,overRuns,overBalls,Ah];by_cases z:e=0<;>simp[z,tW]
 ·have hh':(hurt==1)=false:=by simpa using hh
  simp only[hh,if_false,abs,ep,lH,lv,gg,hh',Bool.false_eq_true,Sh11.Innings.mk.injEq,true_and,and_true,overRuns,overBalls,Ah];by_cases z:e=0<;>simp[z,tW]
theorem Gg{i:ak}{e hurt:Nat}(h:i.Ok)(h0:i.e0≠11)(h1:i.e1≠11):(i.retire e hurt).Ok:=by
 have hne:=h.ne h0;have h0':=h.e0;have h1':=h.e1;obtain⟨n,c,eF⟩:∃(n:Nat)(c:Nat),(n=9∧c=0∨n=10∧c=1)∧∃ fl,i.retire e hurt={ i with e0:=if e=0 then 11 else i.e0,e1:=if e=0 then i.e1 else 11,bats:=i.bats.modify (if e=0 then i.e0 else i.e1) (leave n 11 11),falls:=fl,wickets:=i.wickets+c }:=by
  unfold retire;by_cases hh:hurt=1
  ·exact⟨9,0,.inl ⟨rfl,rfl⟩,i.falls,by simp only[hh,if_true];rfl⟩
  ·exact⟨10,1,.inr ⟨rfl,rfl⟩,_,by simp only[hh,if_false,lH];rfl⟩
 obtain⟨hn,fl,eF⟩:=eF;rw[eF];obtain⟨x,hx⟩:∃ x,i.bats[if e=0 then i.e0 else i.e1]?=some x:=ir h (by split<;>omega)
 have hx0:x.how=0∧x.place≠0:=by
  by_cases z:e=0
  ·rw[if_pos z]at hx;exact h.s0 x hx
  ·rw[if_neg z]at hx;exact h.s1 x hx
 have no11:∀ y,(i.bats.modify (if e=0 then i.e0 else i.e1) (leave n 11 11))[11]?=some y→y.how=0∧y.place≠0:=fun y hy=>by
  have:(i.bats.modify (if e=0 then i.e0 else i.e1) (leave n 11 11))[11]?=none:=List.getElem?_eq_none_iff.mpr (by rw[List.length_modify,h.bats];omega);rw[this]at hy;cases hy
 refine⟨h.len,?_,h.aI,?_,?_,?_,?_,?_,h.bowler,h.over,h.count,h.PN,?_,?_,?_,h.stands⟩
 ·show(i.bats.modify _ _).length=11;rw[List.length_modify];exact h.bats
 ·show(if e=0 then 11 else i.e0)≤11
  split<;>omega
 ·show(if e=0 then i.e1 else 11)≤11
  split<;>omega
 ·intro _;show(if e=0 then 11 else i.e0)≠(if e=0 then i.e1 else 11)
  split<;>omega
 ·intro y hy;have hy':(i.bats.modify (if e=0 then i.e0 else i.e1) (leave n 11 11))[if e=0 then 11 else i.e0]?=some y:=hy;by_cases z:e=0
  ·rw[if_pos z]at hy';exact no11 y (by rw[if_pos z];simpa [z]using hy')
  ·simp only[if_neg z]at hy';rw[bT _ _ (Ne.symm hne)]at hy';exact h.s0 y hy'
 ·intro y hy;have hy':(i.bats.modify (if e=0 then i.e0 else i.e1) (leave n 11 11))[if e=0 then i.e1 else 11]?=some y:=hy;by_cases z:e=0
  ·simp only[if_pos z]at hy';rw[bT _ _ hne]at hy';exact h.s1 y hy'
  ·exact no11 y (by simpa [z]using hy')
 ·have hwk:=h.wickets;rw[mL]at hwk ⊢;show i.wickets+c=((i.bats.modify (if e=0 then i.e0 else i.e1) (leave n 11 11)).filter fun b=>Sh11.isOut b.how).length;have cm:=eI (fun b=>Sh11.isOut b.how) (leave n 11 11) i.bats _ x hx;have q1:Sh11.isOut x.how=false:=by rw[hx0.1];rfl
  have q2:Sh11.isOut (leave n 11 11 x).how=decide (c=1):=by
   show Sh11.isOut n=_;rcases hn with⟨z,z'⟩|⟨z,z'⟩<;>subst z z'<;>rfl
  simp only[q1,q2,Bool.false_eq_true,if_false]at cm;rcases hn with⟨z,z'⟩|⟨z,z'⟩<;>subst z z'<;>simp at cm<;>omega
 ·have hb:=h.eW;show i.eW=((i.bats.modify (if e=0 then i.e0 else i.e1) (leave n 11 11)).filter fun b=>b.place != 0).length;rw[uf _ (leave n 11 11) (fun y=>rfl)];exact hb
 ·refine mem_modify h.Oo fun y hy=>?_
  rw[hx]at hy;cases hy;refine⟨fun z=>absurd z hx0.2,fun _=>⟨rfl,rfl⟩⟩
theorem EX{i:ak}(h:i.Ok)(n:Nat):(i.bK n).Ok:=⟨h.len,h.bats,h.aI,h.e0,h.e1,h.ne,h.s0,h.s1,h.bowler,h.over,h.count,h.PN,h.wickets,h.eW,h.Oo,h.stands⟩
theorem EY{i:ak}(h:i.Ok)(n:Nat):({ i with ended:=n }:ak).Ok:=⟨h.len,h.bats,h.aI,h.e0,h.e1,h.ne,h.s0,h.s1,h.bowler,h.over,h.count,h.PN,h.wickets,h.eW,h.Oo,h.stands⟩
noncomputable def opened(side len owed s o:Nat):ak:=((fresh side len).Ee s o).bK owed
theorem NJ{s o:Nat}(hs:s≤10)(ho:o≤10)(hn:s≠o) :
  ((List.replicate 11 Sh11.freshBat).modify s fun x=>({ x with place:=1 }:Bat)).modify o (fun x=>{ x with place:=2 })=(List.range 11).map fun p=>if p=s then{ Sh11.freshBat with place:=1 }else if p=o then{ Sh11.freshBat with place:=2 }else Sh11.freshBat:=by
 have h1:∀ s:Fin 11,∀ o:Fin 11,s.val≠o.val→((List.replicate 11 Sh11.freshBat).modify s.val fun x=>({ x with place:=1 }:Bat)).modify o.val (fun x=>{ x with place:=2 })=(List.range 11).map fun p=>if p=s.val then{ Sh11.freshBat with place:=1 }else if p=o.val then{ Sh11.freshBat with place:=2 }else Sh11.freshBat:=by
  intro s o hn;apply List.ext_getElem?;intro j;rw[dG,dG,List.getElem?_map];by_cases hj:j<11
  ·rw[List.getElem?_range hj,List.getElem?_replicate,if_pos hj];by_cases q1:s.val=j
   ·by_cases q2:o.val=j
    ·omega
    ·simp only[q1,q2,if_true,if_false,Option.map_some]
   ·by_cases q2:o.val=j
    ·have q3:¬j=s.val:=fun z=>q1 z.symm
     simp only[q1,q2,q3,if_true,if_false,Option.map_some]
    ·have q3:¬j=s.val:=fun z=>q1 z.symm
     have q4:¬j=o.val:=fun z=>q2 z.symm
     simp only[q1,q2,q3,q4,if_false,Option.map_some]
  ·have a:(List.replicate 11 Sh11.freshBat)[j]?=none:=List.getElem?_eq_none_iff.mpr (by simp;omega);have b:(List.range 11)[j]?=none:=List.getElem?_eq_none_iff.mpr (by simp;omega);rw[a,b];simp
 exact h1 ⟨s,by omega⟩ ⟨o,by omega⟩ hn
theorem fN{side len owed s o:Nat}:opened side len owed s o=⟨side,len,((List.replicate 11 Sh11.freshBat).modify s fun x=>({ x with place:=1 }:Bat)).modify o (fun x=>{ x with place:=2 }),List.replicate 11 ⟨0,0,0,0,0,0,0⟩,s,o,2,11,[],[],[⟨s,o,0,0⟩],owed,0,0,0,0,0,0,owed,0⟩:=by
 unfold opened Ee bG fresh bK;simp
theorem KH{side len owed s o:Nat}(hs:s≤10)(ho:o≤10)(hn:s≠o):(opened side len owed s o).abs =
  ⟨side,owed,0,0,0,0,owed,0,(List.range 11).map fun p=>if p=s then{ Sh11.freshBat with place:=1 }else if p=o then{ Sh11.freshBat with place:=2 }else Sh11.freshBat,List.replicate 11 ⟨0,0,0,0,0,0⟩,[],[⟨s,o,0,0⟩],some s,some o,none,none,0,0,[],0⟩:=by
 rw[fN];unfold abs;simp only[NJ hs ho hn,ff (show s≠11 by omega),ff (show o≠11 by omega),tW,Ah,overRuns,overBalls];rfl
theorem MN{side len owed s o:Nat}(hs:s≤10)(ho:o≤10)(hn:s≠o)(hl:4≤len∧len≤8):(opened side len owed s o).Ok:=by
 rw[fN];have gs:((List.replicate 11 Sh11.freshBat).modify s fun x=>({ x with place:=1 }:Bat))[s]?=some { Sh11.freshBat with place:=1 }:=by
  rw[cu,List.getElem?_replicate,if_pos (by omega)];rfl
 have go:((List.replicate 11 Sh11.freshBat).modify s fun x=>({ x with place:=1 }:Bat))[o]?=some Sh11.freshBat:=by
  rw[bT _ _ hn,List.getElem?_replicate,if_pos (by omega)]
 have hmem:∀ x∈((List.replicate 11 Sh11.freshBat).modify s fun x=>({ x with place:=1 }:Bat)).modify o (fun x=>{ x with place:=2 }),x.how=0∧x.bowler=11∧x.fielder=11:=by
  refine mem_modify (mem_modify (fun x hx=>?_) fun x hx=>?_) fun x hx=>?_
  ·rw[List.eq_of_mem_replicate hx];exact⟨rfl,rfl,rfl⟩
  ·rw[List.eq_of_mem_replicate (List.mem_of_getElem? hx)];exact⟨rfl,rfl,rfl⟩
  ·rw[go]at hx;cases hx;exact⟨rfl,rfl,rfl⟩
 refine⟨hl,by simp,by simp,by show s≤11;omega,by show o≤11;omega,fun _=>hn,?_,?_,Nat.le_refl _,fun z=>absurd rfl z,rfl,?_,?_,?_,?_,by simp⟩
 ·intro x hx;have hx':(((List.replicate 11 Sh11.freshBat).modify s fun x=>({ x with place:=1 }:Bat)).modify o (fun x=>{ x with place:=2 }))[s]?=some x:=hx;rw[bT _ _ (Ne.symm hn),gs]at hx'
  cases hx'
  exact⟨rfl,by decide⟩
 ·intro x hx;have hx':(((List.replicate 11 Sh11.freshBat).modify s fun x=>({ x with place:=1 }:Bat)).modify o (fun x=>{ x with place:=2 }))[o]?=some x:=hx;rw[cu,go]at hx'
  cases hx'
  exact⟨rfl,by decide⟩
 ·intro p f hf;have hf':(List.replicate 11 (⟨0,0,0,0,0,0,0⟩:Ka))[p]?=some f:=hf;have e:=List.eq_of_mem_replicate (List.mem_of_getElem? hf');have p11:p<11:=by
   have:=(List.getElem?_eq_some_iff.mp hf').1
   simpa using this
  subst e;show 0+(if p=11 then len else 0)=len*0+(if p=11 then _ else 0)
  rw[if_neg (by omega),if_neg (by omega)];simp
 ·rw[mL];show 0=_;symm;rw[List.length_eq_zero_iff,List.filter_eq_nil_iff];intro x hx;rw[(hmem x hx).1]
  decide
 ·have c1:=eI (fun b:Bat=>b.place != 0) (fun x=>{ x with place:=1 }) (List.replicate 11 Sh11.freshBat) s Sh11.freshBat (by rw[List.getElem?_replicate,if_pos (by omega)]);have c2:=eI (fun b:Bat=>b.place != 0) (fun x=>{ x with place:=2 }) _ o Sh11.freshBat go;have c0:((List.replicate 11 Sh11.freshBat).filter fun b=>b.place != 0).length=0:=by decide
  have k1:(if(Sh11.freshBat.place != 0)=true then 1 else 0)=0:=rfl;have k2:(if((({ Sh11.freshBat with place:=1 }:Bat).place != 0)=true)then 1 else 0)=1:=rfl;have k3:(if((({ Sh11.freshBat with place:=2 }:Bat).place != 0)=true)then 1 else 0)=1:=rfl;have d1:=(congrArg (fun z=>_+z) k1).symm.trans c1;have d2:=(congrArg (fun z=>_+z) k1).symm.trans c2;show 2=_;rw[c0]at d1
  exact (show(2:Nat)=_ from by
   have a1:=d1.trans (congrArg (fun z=>0+z) k2);have a2:=d2.trans (congrArg (fun z=>_+z) k3);simp only[Nat.add_zero,Nat.zero_add]at a1 a2
   rw[a2,a1])
 ·intro x hx;have:=hmem x hx;exact⟨fun _=>this.1,fun _=>this.2⟩
end ak
end aq
namespace aq
open Sh11 (Bat Bowl Fall Stand Ball Rules Match Event)
namespace ak
theorem Al(i:ak):i.abs.short=i.aH:=by
 unfold Sh11.Innings.short aH;show((opt i.e0).isNone||(opt i.e1).isNone)=_;have:∀ n,(opt n).isNone=(n==11):=fun n=>by
  unfold opt;by_cases h:n=11<;>simp[h]
 rw[this,this]
theorem pD{i:ak}(h:i.Ok)(p:Nat):p∈i.abs.available↔p≤10∧∃ x,i.bats[p]?=some x∧bI x=true:=by
 unfold Sh11.Innings.available;rw[List.mem_filter,List.mem_range];show(p<11∧(match i.bats[p]? with|some b=>b.place==0||b.how==9|none=>false)=true)↔_;constructor
 ·rintro⟨h1,h2⟩
  refine⟨by omega,?_⟩
  cases e:i.bats[p]? with
  |none=>rw[e]at h2;cases h2
  |some x=>rw[e]at h2;exact⟨x,rfl,h2⟩
 ·rintro⟨h1,x,e,hm⟩
  refine⟨by omega,?_⟩;rw[e];exact hm
theorem MW{i:ak}(h:i.Ok):i.abs.available=[]↔i.dD=false:=by
 rw[List.eq_nil_iff_forall_not_mem];unfold dD;constructor
 ·intro hn;rw[Bool.eq_false_iff];intro ha;rw[List.any_eq_true]at ha;obtain⟨x,hx,hm⟩:=ha;obtain⟨p,hp⟩:=List.mem_iff_getElem?.mp hx;have:p<i.bats.length:=(List.getElem?_eq_some_iff.mp hp).1;rw[h.bats]at this;exact hn p ((pD h p).mpr ⟨by omega,x,hp,hm⟩)
 ·intro hn p hp;obtain⟨_,x,e,hm⟩:=(pD h p).mp hp;rw[Bool.eq_false_iff]at hn;exact hn (List.any_eq_true.mpr ⟨x,List.mem_of_getElem? e,hm⟩)
theorem MT{α:Type}(p:α→Bool)(l:List α):(l.filter p).length=l.length↔∀ x∈l,p x=true:=by
 rw[List.length_filter_eq_length_iff]
theorem Hu{i:ak}(h:i.Ok):i.abs.onlyHurt=true↔i.vY=false:=by
 unfold Sh11.Innings.onlyHurt vY;rw[List.all_eq_true];have hb:=h.eW;have hl:(i.bats.filter fun b=>b.place != 0).length≤i.bats.length:=List.length_filter_le _ _;rw[h.bats]at hl;have e:decide (i.eW<11)=false↔(i.bats.filter fun b=>b.place != 0).length=i.bats.length:=by
  rw[h.bats,decide_eq_false_iff_not,hb];omega
 rw[e,MT];constructor
 ·intro ha x hx;obtain⟨p,hp⟩:=List.mem_iff_getElem?.mp hx;have hp11:p<i.bats.length:=(List.getElem?_eq_some_iff.mp hp).1;rw[h.bats]at hp11
  cases hz:(x.place != 0)with
  |true=>rfl
  |false=>
   have hz':x.place=0:=by simpa using hz
   have ht:=ha p ((pD h p).mpr ⟨by omega,x,hp,by unfold bI;rw[hz'];rfl⟩);have ht':(match i.bats[p]? with|some b=>b.how==9|none=>false)=true:=ht;rw[hp]at ht';have h9:x.how=9:=by simpa using ht'
   have:=(h.Oo x hx).fresh hz';omega
 ·intro ha p hp;obtain⟨_,x,e,hm⟩:=(pD h p).mp hp;show(match i.bats[p]? with|some b=>b.how==9|none=>false)=true;rw[e];unfold bI at hm;have hx:=ha x (List.mem_of_getElem? e);simp only[Bool.or_eq_true,beq_iff_eq]at hm;have hx':x.place≠0:=by simpa using hx
  rcases hm with z|z
  ·exact absurd z hx'
  ·show(x.how==9)=true;rw[z];rfl
def QS(limit:Nat)(i:ak):Prop:=limit≠0→if i.bowler=11 then i.fin≤limit else i.fin<limit
noncomputable def cp(n:Nat)(i:ak):Bool:=decide (i.overs.length=n)&&i.bowler==11
theorem Gv{i:ak}(h:i.Ok){limit:Nat}(h0:limit≠0)(hf:i.QS limit):(i.abs.legal=limit*i.len)↔i.cp limit=true:=by
 have hl:=h.len;have hc:=h.count;have hF:=hf h0;have hpart:i.part<i.len:=by
  unfold part;by_cases hb:i.bowler=11
  ·rw[if_pos hb];omega
  ·obtain⟨os,x,eo,_,hx⟩:=h.over hb;rw[if_neg hb,(mn eo).1];exact hx
 show i.balls=limit*i.len↔_;unfold cp;rw[Bool.and_eq_true,decide_eq_true_eq,beq_iff_eq];rw[hc,Nat.mul_comm limit];by_cases hb:i.bowler=11
 ·have e1:i.part=0:=if_pos hb;have e2:i.fin=i.overs.length:=if_pos hb;rw[e1,e2,Nat.add_zero];constructor
  ·intro z;exact⟨Nat.eq_of_mul_eq_mul_left (by omega) z,hb⟩
  ·rintro⟨z,_⟩
   rw[z]
 ·rw[if_neg hb]at hF;constructor
  ·intro z
   exfalso
   have h1:i.len*(i.fin+1)≤i.len*limit:=Nat.mul_le_mul_left _ hF;rw[Nat.mul_add]at h1;omega
  ·rintro⟨_,z⟩
   exact absurd z hb
theorem JN{i:ak}{b:Ball}{limit:Nat}(h:i.Ok)(hw:i.bowler≠11)(hf:limit≠0→i.fin<limit):(i.deliver b).QS limit:=by
 obtain⟨os,x,eo,ew,hx⟩:=h.over hw;obtain⟨st,t,es⟩:∃ st t,i.stands=st++[t]:=by
  rcases a8 i.stands with z|z
  ·exact absurd z h.stands
  ·exact z
 rw[gO eo es];intro h0;have hF:=hf h0;have efin:i.fin=os.length:=by unfold fin;rw[if_neg hw,eo];simp
 have e:(b5 i b os x st t).bowler=if x.balls+b.fair=i.len then 11 else i.bowler:=rfl
 have e2:(b5 i b os x st t).overs=os++[b7 b x]:=rfl;unfold fin;rw[e,e2];by_cases hd:x.balls+b.fair=i.len
 ·rw[if_pos hd,if_pos rfl,if_pos rfl,List.length_append,List.length_singleton];omega
 ·rw[if_neg hd,if_neg hw,if_neg hw,List.length_append,List.length_singleton];omega
end ak
namespace ab
noncomputable def abs(g:ab):Match:=⟨g.rules,g.played.map ak.abs,g.owed,g.followed,g.up⟩
noncomputable def current(g:ab):Option ak:=match g.played.getLast? with
 |some i=>if i.ended=0 then some i else none
 |none=>none
noncomputable def cU(g:ab)(side:Nat):Nat:=((g.played.filter fun i=>i.side==side).map (·.runs)).sum
noncomputable def lead(g:ab)(side:Nat):Int:=(g.cU side:Int)-(g.cU (1-side):Int)
noncomputable def bZ(g:ab):Bool:=decide (g.played.length=2*g.rules.sides)
noncomputable def fW(g:ab):Bool:=decide (g.played.length=3)&&(match g.played[2]? with|some i=>decide (g.lead i.side<0)|none=>false)
noncomputable def bV(g:ab):Bool:=if g.up=true then true else if g.current.isSome=true then false else g.bZ||g.fW
noncomputable def aS(g:ab):Nat:=if g.followed=true then 1-g.played.length % 2 else g.played.length % 2
noncomputable def cb(f:ak→ak)(g:ab):ab:={ g with played:=gI f g.played }
noncomputable def aF(g:ab):ab:=match g.current with
 |none=>g
 |some i=>
  if g.bZ=true∧0<g.lead i.side then g.cb fun i=>{ i with ended:=4 }
  else if i.aH=true∧i.dD=false then g.cb fun i=>{ i with ended:=1 }
  else if g.rules.overs≠0∧i.cp g.rules.overs=true then g.cb fun i=>{ i with ended:=3 }
  else g
noncomputable def eO(g:ab)(side:Nat):Nat:=if side=0 then g.owed.1 else g.owed.2
noncomputable def eQ(g:ab)(side n:Nat):ab:={ g with owed:=if side=0 then(n,g.owed.2)else(g.owed.1,n) }
noncomputable def jn(s o:Nat)(g:ab):ab:=
 let side:=g.aS
 let h:=g.eQ side 0
 aF { h with played:=h.played++[ak.opened side g.rules.balls (g.eO side) s o] }
noncomputable def qp(p:Nat)(i:ak)(most:Nat):Bool:=
 if i.bowler≠11∨(i.overs.getLast?).map (·.bowler)=some p then false else decide (most=0)||(match i.aI[p]? with|some f=>decide (f.overs<most)|none=>false)
noncomputable def lastOf(side:Nat):List ak→Option Nat
 |[]=>none
 |i::r=>match lastOf side r with
  |some k=>some (k+1)
  |none=>if i.side=side then some 0 else none
noncomputable def kj(side:Nat)(g:ab):ab:=aF (match lastOf side g.played with
 |some k=>{ g with played:=g.played.modify k (ak.bK 5) }
 |none=>g.eQ side (g.eO side+5))
noncomputable def b9(g:ab)(i:ak):Nat:=if i.aH=true∧i.vY=false then 1 else if g.rules.overs=0 then 2 else 0
noncomputable def mM(g:ab):Bool:=
 if g.rules.sides≠2∨g.played.length≠2∨g.current.isSome=true then false
 else if g.followed=true∨g.up=true∨g.rules.follow=0 then false
 else decide ((g.rules.follow:Int)≤g.lead 0)
noncomputable def zK(g:ab):Bool:=decide (0<g.played.length)&&(decide (g.rules.overs=0)&&!g.bV)
noncomputable def pj(g:ab):ab:=match g.current with
 |none=>{ g with up:=true }
 |some _=>{ (g.cb fun i=>{ i with ended:=5 })with up:=true }
noncomputable def act(g:ab):Event→Option ab
 |.open_ s o=>if g.current.isSome=true∨g.bV=true then none else some (g.jn s o)
 |.bowler p=>match g.current with
  |none=>none
  |some i=>if qp p i g.rules.most=true then some (g.cb (ak.cj p))else none
 |.ball b=>match g.current with
  |none=>none
  |some i=>if i.bowler=11∨i.aH=true then none else some (aF (g.cb (ak.deliver b)))
 |.in_ p=>match g.current with
  |none=>none
  |some i=>if i.aH=false∨((i.bats[p]?).map bI).getD false=false then none else some (g.cb (ak.gb p))
 |.retire e hurt=>match g.current with
  |none=>none
  |some i=>if i.aH=true then none else some (aF (g.cb (ak.retire e (if hurt=true then 1 else 0))))
 |.penalty side=>if g.bV=true then none else some (g.kj side)
 |.declare=>match g.current with
  |none=>none
  |some i=>if g.b9 i=0 then none else some (g.cb fun j=>{ j with ended:=g.b9 i })
 |.follow=>if g.mM=true then some { g with followed:=true }else none
 |.draw=>if g.zK=true then some g.pj else none
structure Ok(g:ab):Prop where
 rules:g.rules.ok=true
 iT:∀ i∈g.played,i.Ok
 len:∀ i∈g.played,i.len=g.rules.balls
 old:∀ i∈g.played.dropLast,i.ended≠0
 up:g.up=true→g.current=none
 AE:g.played.length≤2*g.rules.sides
 fin:∀ i,g.current=some i→g.rules.overs≠0→i.fin<g.rules.overs
 sides:g.played.map (·.side)=[0,1,if g.followed=true then 1 else 0,if g.followed=true then 0 else 1].take g.played.length
 MA:g.followed=true→2≤g.played.length
end ab
end aq
namespace aq
open Sh11 (Bat Bowl Fall Stand Ball Rules Match Event)
namespace ab
theorem xn(g:ab)(s:Nat):g.abs.sum s=g.cU s:=by
 unfold Sh11.Match.sum cU abs;rw[Dy,List.filter_map,List.map_map];rfl
theorem j3{g:ab}{i:ak}(h:g.current=some i):∃ ps,g.played=ps++[i]∧i.ended=0:=by
 unfold current at h;rcases a8 g.played with e|⟨ps,j,e⟩
 ·rw[e]at h;cases h
 ·rw[e]at h;have:(ps++[j]).getLast?=some j:=by simp
  rw[this]at h
  simp only at h
  split at h
  ·rename_i hj;cases h;exact⟨ps,e,hj⟩
  ·cases h
theorem kl{g:ab}{ps:List ak}{i:ak}(e:g.played=ps++[i]):g.current=if i.ended=0 then some i else none:=by
 unfold current;rw[e];have:(ps++[i]).getLast?=some i:=by simp
 rw[this]
theorem aG{g:ab}{ps:List ak}{i:ak}(e:g.played=ps++[i])(f:ak→ak):g.cb f={ g with played:=ps++[f i] }:=by
 unfold cb;rw[e,ie]
theorem iW{g:ab}{ps:List ak}{i:ak}(e:g.played=ps++[i])(f:ak→ak)(f':Sh11.Innings→Sh11.Innings)(h:(f i).abs=f' i.abs):(g.cb f).abs=g.abs.last f':=by
 rw[aG e];unfold abs Sh11.Match.last;simp only[e,List.map_append,List.map_cons,List.map_nil];rw[Ir,h]
theorem Bv{g:ab}{ps:List ak}{i:ak}(e:g.played=ps++[i])(f':Sh11.Innings→Sh11.Innings)(h:f' i.abs=i.abs):g.abs=g.abs.last f':=by
 have:=iW e id f' h.symm;rw[←this,aG e];unfold abs;simp only[e,id]
theorem quiet_eq{g:ab}(h:∀ i∈g.played.dropLast,i.ended≠0):g.abs.quiet=g.current.isNone:=by
 unfold Sh11.Match.quiet;show(g.played.map ak.abs).all _=_;rcases a8 g.played with e|⟨ps,i,e⟩
 ·unfold current;rw[e];rfl
 ·rw[kl e,e,List.map_append,List.all_append];rw[e]at h;simp only[List.dropLast_concat]at h;have h1:(ps.map ak.abs).all (fun i=>!i.going)=true:=by
   rw[List.all_eq_true];intro x hx;obtain⟨j,hj,rfl⟩:=List.mem_map.mp hx;have:=h j hj;show(!(j.ended==0))=true
   simpa using this
  rw[h1];show(true&&((!(i.ended==0))&&true))=_;by_cases z:i.ended=0
  ·simp[z]
  ·simp[z]
theorem Dp{g:ab}(h:g.Ok):g.abs.finished=g.bV:=by
 unfold Sh11.Match.finished bV;rw[quiet_eq h.old];show(g.up||(g.current.isNone&&((g.played.map ak.abs).length==2*g.rules.sides||_)))=_
 cases hu:g.up with
 |true=>rfl
 |false=>
  simp only[Bool.false_or,Bool.false_eq_true,if_false]
  cases hc:g.current with
  |some i=>rfl
  |none=>
   simp only[Option.isNone_none,Bool.true_and,Option.isSome_none,Bool.false_eq_true,if_false];rw[List.length_map];have e1:(g.played.length==2*g.rules.sides)=g.bZ:=rfl;rw[e1]
   congr 1
   unfold fW lead;have e2:g.abs.innings=g.played.map ak.abs:=rfl;rw[e2]
   match hp:g.played with
   |[]=>rfl
   |[_]=>rfl
   |[_,_]=>rfl
   |[a,b,c]=>
    simp only[List.map_cons,List.map_nil,List.length_cons,List.length_nil,Nat.zero_add,Nat.reduceAdd,decide_true,Bool.true_and,List.getElem?_cons_succ,List.getElem?_cons_zero];rw[xn,xn];show decide (g.cU c.side<g.cU (1-c.side))=_;rw[decide_eq_decide];omega
   |_::_::_::_::_=>
    simp only[List.map_cons,List.length_cons];symm;rw[Bool.and_eq_false_iff]
    left
    exact decide_eq_false (by omega)
theorem uH{g:ab}(h:∀ i∈g.played,i.Ok)(hl:∀ i∈g.played,i.len=g.rules.balls)(hf:∀ i,g.current=some i→i.QS g.rules.overs):g.aF.abs=g.abs.settled:=by
 unfold Sh11.Match.settled;rcases a8 g.played with e|⟨ps,i,e⟩
 ·have hc:g.current=none:=by unfold current;rw[e];rfl
  unfold aF;rw[hc];unfold Sh11.Match.last;show g.abs=_;unfold abs;simp only[e];rfl
 ·have hi:=h i (by rw[e];simp);have hli:=hl i (by rw[e];simp);have hc:=kl e;unfold aF;by_cases z:i.ended=0
  ·rw[if_pos z]at hc;rw[hc];have hfi:=hf i hc;simp only[];have a1:(g.bZ=true∧0<g.lead i.side)↔(g.abs.innings.length=2*g.abs.rules.sides∧g.abs.sum (1-i.abs.side)<g.abs.sum i.abs.side):=by
    rw[xn,xn];unfold bZ lead abs;rw[decide_eq_true_eq];simp only[List.length_map];show(_∧0<(g.cU i.side:Int)-(g.cU (1-i.side):Int))↔(_∧g.cU (1-i.side)<g.cU i.side)
    constructor<;>rintro⟨q1,q2⟩<;>refine⟨q1,?_⟩<;>omega
   have a2:(i.aH=true∧i.dD=false)↔(i.abs.short=true∧i.abs.available=[]):=by
    rw[ak.Al,ak.MW hi]
   have a3:(g.rules.overs≠0∧i.cp g.rules.overs=true)↔(g.abs.rules.overs≠0∧i.abs.legal=g.abs.rules.overs*g.abs.rules.balls):=by
    constructor
    ·rintro⟨q1,q2⟩
     refine⟨q1,?_⟩;have:=(ak.Gv hi q1 hfi).mpr q2;rw[hli]at this;exact this
    ·rintro⟨q1,q2⟩
     refine⟨q1,(ak.Gv hi q1 hfi).mp ?_⟩;rw[hli];exact q2
   have ng:¬i.abs.going=false:=by
    show¬((i.ended==0)=false);simp[z]
   by_cases c1:g.bZ=true∧0<g.lead i.side
   ·rw[if_pos c1];refine iW e _ _ ?_;rw[if_neg ng,if_pos (a1.mp c1)];rfl
   ·rw[if_neg c1];have n1:=fun q=>c1 (a1.mpr q)
    by_cases c2:i.aH=true∧i.dD=false
    ·rw[if_pos c2];refine iW e _ _ ?_;rw[if_neg ng,if_neg n1,if_pos (a2.mp c2)];rfl
    ·rw[if_neg c2];have n2:=fun q=>c2 (a2.mpr q)
     by_cases c3:g.rules.overs≠0∧i.cp g.rules.overs=true
     ·rw[if_pos c3];refine iW e _ _ ?_;rw[if_neg ng,if_neg n1,if_neg n2,if_pos (a3.mp c3)];rfl
     ·rw[if_neg c3];have n3:=fun q=>c3 (a3.mpr q)
      refine Bv e _ ?_;rw[if_neg ng,if_neg n1,if_neg n2,if_neg n3]
  ·rw[if_neg z]at hc;rw[hc];refine Bv e _ ?_;have ng:i.abs.going=false:=by
    show(i.ended==0)=false
    simpa using z
   rw[if_pos ng]
theorem MY(g:ab):∃ n:Nat→Nat,g.aF=(if g.current.isSome=true then g.cb fun i=>{ i with ended:=n i.ended }else g):=by
 unfold aF
 cases h:g.current with
 |none=>exact⟨id,rfl⟩
 |some i=>
  simp only[Option.isSome_some,if_true];split
  ·exact⟨fun _=>4,rfl⟩
  ·split
   ·exact⟨fun _=>1,rfl⟩
   ·split
    ·exact⟨fun _=>3,rfl⟩
    ·refine⟨id,?_⟩;obtain⟨ps,e,_⟩:=j3 h;rw[aG e];obtain⟨_,pl,_,_,_⟩:=g
     simp only at e
     subst e;rfl
structure Pre(g:ab):Prop where
 rules:g.rules.ok=true
 iT:∀ i∈g.played,i.Ok
 len:∀ i∈g.played,i.len=g.rules.balls
 old:∀ i∈g.played.dropLast,i.ended≠0
 up:g.up=true→g.current=none
 AE:g.played.length≤2*g.rules.sides
 fit:∀ i,g.current=some i→i.QS g.rules.overs
 sides:g.played.map (·.side)=[0,1,if g.followed=true then 1 else 0,if g.followed=true then 0 else 1].take g.played.length
 MA:g.followed=true→2≤g.played.length
theorem Ok.pre{g:ab}(h:g.Ok):g.Pre:=⟨h.rules,h.iT,h.len,h.old,h.up,h.AE,fun i hi h0=>by
 have:=h.fin i hi h0;split
 ·omega
 ·exact this,h.sides,h.MA⟩
theorem Pre.look{g:ab}(h:g.Pre):g.aF.Ok:=by
 cases hc:g.current with
 |none=>
  have e:g.aF=g:=by unfold aF;rw[hc]
  rw[e];exact⟨h.rules,h.iT,h.len,h.old,h.up,h.AE,fun i hi=>(by rw[hc]at hi;cases hi),h.sides,h.MA⟩
 |some i=>
  obtain⟨ps,e,hz⟩:=j3 hc;have hi:=h.iT i (by rw[e];simp);have gen:∀ n:Nat,(n=0→g.rules.overs≠0→i.fin<g.rules.overs)→(g.cb fun i=>{ i with ended:=n }).Ok:=by
   intro n hn;rw[aG e];have hold:=h.old;rw[e]at hold;simp only[List.dropLast_concat]at hold;have len2:(ps++[({ i with ended:=n }:ak)]).length=g.played.length:=by rw[e];simp
   refine⟨h.rules,?_,?_,?_,?_,?_,?_,?_,?_⟩
   ·intro j hj;rcases List.mem_append.mp hj with q|q
    ·exact h.iT j (by rw[e];exact List.mem_append_left _ q)
    ·rw[List.mem_singleton.mp q];exact ak.EY hi n
   ·intro j hj;rcases List.mem_append.mp hj with q|q
    ·exact h.len j (by rw[e];exact List.mem_append_left _ q)
    ·rw[List.mem_singleton.mp q];exact h.len i (by rw[e];simp)
   ·show ∀ j∈(ps++[({ i with ended:=n }:ak)]).dropLast,_
    simp only[List.dropLast_concat];exact hold
   ·intro hu;have:=h.up hu;rw[hc]at this;cases this
   ·show(ps++[({ i with ended:=n }:ak)]).length≤_;rw[len2];exact h.AE
   ·intro j hj;rw[kl rfl]at hj
    split at hj
    ·rename_i q;cases hj;exact hn q
    ·cases hj
   ·show(ps++[({ i with ended:=n }:ak)]).map (·.side)=List.take (ps++[({ i with ended:=n }:ak)]).length _;rw[len2];have hs:=h.sides;rw[e]at hs ⊢;simp only[List.map_append,List.map_cons,List.map_nil]at hs ⊢;exact hs
   ·intro hf;show 2≤(ps++[({ i with ended:=n }:ak)]).length;rw[len2];exact h.MA hf
  unfold aF;rw[hc];simp only[];split
  ·exact gen 4 (fun z=>by cases z)
  ·split
   ·exact gen 1 (fun z=>by cases z)
   ·split
    ·exact gen 3 (fun z=>by cases z)
    ·rename_i c1 c2 c3;have hz':g=g.cb fun i=>{ i with ended:=0 }:=by
      rw[aG e];obtain⟨_,pl,_,_,_⟩:=g
      simp only at e
      subst e;obtain⟨side,len,bats,aI,e0,e1,eW,bowler,overs,falls,stands,runs,wickets,balls,wides,noBalls,byes,legByes,qO,ended⟩:=i
      simp only at hz
      subst hz;rfl
     rw[hz'];refine gen 0 fun _ h0=>?_
     have hF:=h.fit i hc h0;by_cases hb:i.bowler=11
     ·rw[if_pos hb]at hF;have:¬i.cp g.rules.overs=true:=fun q=>c3 ⟨h0,q⟩
      unfold ak.cp at this;rw[hb]at this;have e2:i.fin=i.overs.length:=if_pos hb;simp only[beq_self_eq_true,Bool.and_true,decide_eq_true_eq]at this;omega
     ·rw[if_neg hb]at hF;exact hF
end ab
end aq
namespace aq
open Sh11 (Bat Bowl Fall Stand Ball Rules Match Event)
noncomputable def GY:Event→Prop
 |.open_ s o=>s≤10∧o≤10∧s≠o
 |.bowler p=>p≤10
 |.ball b=>b.ok=true
 |.in_ p=>p≤10
 |.retire e _=>e≤1
 |.penalty side=>side≤1
 |_=>True
namespace ab
theorem Gn(side:Nat):∀(l:List ak)(n:Nat),((((l.map ak.abs).zipIdx n).filter fun x=>x.1.side==side).getLast?).map (·.2)=(lastOf side l).map (·+n)
 |[],n=>rfl
 |i::r,n=>by
  have ih:=Gn side r (n+1);rw[List.map_cons,List.zipIdx_cons,List.filter_cons];unfold lastOf;have hs:(i.abs.side==side)=decide (i.side=side):=rfl;simp only[hs]
  cases hl:lastOf side r with
  |none=>
   rw[hl]at ih;have hn:((r.map ak.abs).zipIdx (n+1)).filter (fun x=>x.1.side==side)=[]:=by
    cases q:((r.map ak.abs).zipIdx (n+1)).filter (fun x=>x.1.side==side)with
    |nil=>rfl
    |cons a b=>
     rw[q]at ih;rw[List.getLast?_cons]at ih;cases ih
   rw[hn];by_cases z:i.side=side
   ·simp[z]
   ·simp[z]
  |some k=>
   rw[hl]at ih;obtain⟨x,hx⟩:∃ x,(((r.map ak.abs).zipIdx (n+1)).filter fun x=>x.1.side==side).getLast?=some x:=by
    cases q:(((r.map ak.abs).zipIdx (n+1)).filter fun x=>x.1.side==side).getLast? with
    |none=>rw[q]at ih;cases ih
    |some x=>exact⟨x,rfl⟩
   rw[hx]at ih;have ih':x.2=k+(n+1):=Option.some.inj ih;have hy:∀ a,(a::((r.map ak.abs).zipIdx (n+1)).filter fun x=>x.1.side==side).getLast?=some x:=fun a=>by
    rw[List.getLast?_cons,hx];rfl
   by_cases z:i.side=side
   ·simp only[z,decide_true,if_true];rw[hy,Option.map_some,ih',Option.map_some]
    congr 1
    omega
   ·simp only[z,decide_false,Bool.false_eq_true,if_false];rw[hx,Option.map_some,ih',Option.map_some]
    congr 1
    omega
theorem LX{g:ab}(h:g.Ok)(hn:g.played.length<2*g.rules.sides):g.abs.next=g.aS∧g.aS≤1:=by
 have hs:=h.sides;have hf:=h.MA;have hr:=h.rules;unfold Sh11.Rules.ok at hr;rw[decide_eq_true_eq]at hr;unfold Sh11.Match.next aS;have e2:g.abs.innings=g.played.map ak.abs:=rfl;have e3:g.abs.follow=g.followed:=rfl;rw[e2,e3]
 match hp:g.played with
 |[]=>
  rw[hp]at hf
  cases hq:g.followed with
  |true=>have:=hf hq;simp at this
  |false=>simp
 |[a]=>
  rw[hp]at hf
  cases hq:g.followed with
  |true=>have:=hf hq;simp at this
  |false=>simp
 |[a,b]=>
  cases hq:g.followed<;>simp
 |[a,b,c]=>
  rw[hp]at hs;simp only[List.map_cons,List.map_nil,List.length_cons,List.length_nil,Nat.zero_add,Nat.reduceAdd,List.take_succ_cons,List.take_zero,List.cons.injEq,and_true]at hs;show 1-c.side=_∧_;rw[hs.2.2]
  cases hq:g.followed<;>simp
 |_::_::_::_::_=>
  rw[hp]at hn;simp only[List.length_cons]at hn;omega
theorem gJ(g:ab):g.abs.innings.getLast?=(g.played.getLast?).map ak.abs:=by
 show(g.played.map ak.abs).getLast?=_;rw[List.getLast?_map]
theorem pC(g:ab):(g.current=none∧(g.played=[]∨∃ ps i,g.played=ps++[i]∧i.ended≠0))∨∃ ps i,g.played=ps++[i]∧i.ended=0∧g.current=some i:=by
 rcases a8 g.played with e|⟨ps,i,e⟩
 ·left
  refine⟨?_,.inl e⟩;unfold current;rw[e];rfl
 ·have hc:=kl e;by_cases z:i.ended=0
  ·rw[if_pos z]at hc;exact .inr ⟨ps,i,e,z,hc⟩
  ·rw[if_neg z]at hc;exact .inl ⟨hc,.inr ⟨ps,i,e,z⟩⟩
theorem ic{g:ab}(h:g.Ok){i:ak}(hc:g.current=some i):g.bV=false:=by
 unfold bV
 cases hu:g.up with
 |true=>have:=h.up hu;rw[hc]at this;cases this
 |false=>rw[hc];rfl
theorem kX{g:ab}(h:g.Ok){ps:List ak}{i:ak}(e:g.played=ps++[i])(hc:g.current=some i)(f:ak→ak)(hf:(f i).Ok)(hl:(f i).len=i.len)(hs:(f i).side=i.side)(hfit:(f i).ended=0→(f i).QS g.rules.overs):(g.cb f).Pre:=by
 rw[aG e];have hold:=h.old;rw[e]at hold;simp only[List.dropLast_concat]at hold;have len2:(ps++[f i]).length=g.played.length:=by rw[e];simp
 refine⟨h.rules,?_,?_,?_,?_,?_,?_,?_,?_⟩
 ·intro j hj;rcases List.mem_append.mp hj with q|q
  ·exact h.iT j (by rw[e];exact List.mem_append_left _ q)
  ·rw[List.mem_singleton.mp q];exact hf
 ·intro j hj;rcases List.mem_append.mp hj with q|q
  ·exact h.len j (by rw[e];exact List.mem_append_left _ q)
  ·rw[List.mem_singleton.mp q,hl];exact h.len i (by rw[e];simp)
 ·show ∀ j∈(ps++[f i]).dropLast,_
  simp only[List.dropLast_concat];exact hold
 ·intro hu;have:=h.up hu;rw[hc]at this;cases this
 ·show(ps++[f i]).length≤_;rw[len2];exact h.AE
 ·intro j hj;rw[kl rfl]at hj
  split at hj
  ·rename_i q;cases hj;exact hfit q
  ·cases hj
 ·show(ps++[f i]).map (·.side)=List.take (ps++[f i]).length _;rw[len2];have hs':=h.sides;rw[e]at hs' ⊢;simp only[List.map_append,List.map_cons,List.map_nil]at hs' ⊢;rw[hs];exact hs'
 ·intro hq;show 2≤(ps++[f i]).length;rw[len2];exact h.MA hq
theorem Pre.ok{g:ab}(h:g.Pre)(hf:∀ i,g.current=some i→g.rules.overs≠0→i.fin<g.rules.overs):g.Ok:=⟨h.rules,h.iT,h.len,h.old,h.up,h.AE,hf,h.sides,h.MA⟩
theorem A7{limit:Nat}{i:ak}(h:limit≠0→i.fin<limit):i.QS limit:=fun h0=>by
 have:=h h0;split
 ·omega
 ·exact this
theorem Jw{g:ab}(h:g.Ok){s o:Nat}(hs:s≤10)(ho:o≤10)(hn:s≠o)(hc:g.current=none)(hv:g.bV=false) :
  ({ g.eQ g.aS 0 with played:=g.played++[ak.opened g.aS g.rules.balls (g.eO g.aS) s o] }:ab).Pre∧
  ({ g.eQ g.aS 0 with played:=g.played++[ak.opened g.aS g.rules.balls (g.eO g.aS) s o] }:ab).abs=g.abs.opened s o:=by
 have hr:=h.rules;unfold Sh11.Rules.ok at hr;rw[decide_eq_true_eq]at hr;have hup:g.up=false:=by
  unfold bV at hv
  cases q:g.up with
  |true=>rw[q]at hv;cases hv
  |false=>rfl
 have hlt:g.played.length<2*g.rules.sides:=by
  have:=h.AE;unfold bV at hv;rw[hup,hc]at hv;simp only[Bool.false_eq_true,if_false,Option.isSome_none,Bool.or_eq_false_iff]at hv;have:=of_decide_eq_false hv.1;omega
 obtain⟨en,en1⟩:=LX h hlt;have iok:(ak.opened g.aS g.rules.balls (g.eO g.aS) s o).Ok:=ak.MN hs ho hn ⟨hr.2.2.2.1,hr.2.2.2.2.1⟩;have isd:(ak.opened g.aS g.rules.balls (g.eO g.aS) s o).side=g.aS:=by rw[ak.fN]
 have ilen:(ak.opened g.aS g.rules.balls (g.eO g.aS) s o).len=g.rules.balls:=by rw[ak.fN]
 have ifin:(ak.opened g.aS g.rules.balls (g.eO g.aS) s o).fin=0:=by rw[ak.fN];rfl
 constructor
 ·refine⟨h.rules,?_,?_,?_,?_,?_,?_,?_,?_⟩
  ·intro j hj;rcases List.mem_append.mp hj with q|q
   ·exact h.iT j q
   ·rw[List.mem_singleton.mp q];exact iok
  ·intro j hj;rcases List.mem_append.mp hj with q|q
   ·exact h.len j q
   ·rw[List.mem_singleton.mp q];exact ilen
  ·intro j hj;have hj:j∈(g.played++[ak.opened g.aS g.rules.balls (g.eO g.aS) s o]).dropLast:=hj;rw[List.dropLast_concat]at hj;rcases pC g with⟨_,q|⟨ps,i,q,z⟩⟩|⟨ps,i,_,_,q⟩
   ·rw[q]at hj;cases hj
   ·have hold:=h.old;rw[q]at hj hold;simp only[List.dropLast_concat]at hold;rcases List.mem_append.mp hj with w|w
    ·exact hold j w
    ·rw[List.mem_singleton.mp w];exact z
   ·rw[hc]at q;cases q
  ·intro hu;have hu':g.up=true:=hu;rw[hup]at hu';cases hu'
  ·show(g.played++[_]).length≤_;rw[List.length_append,List.length_singleton];exact hlt
  ·intro j hj;rw[kl rfl]at hj
   split at hj
   ·cases hj;refine A7 fun h0=>?_
    rw[ifin];exact Nat.pos_of_ne_zero h0
   ·cases hj
  ·show(g.played++[ak.opened g.aS g.rules.balls (g.eO g.aS) s o]).map (·.side)=List.take (g.played++[ak.opened g.aS g.rules.balls (g.eO g.aS) s o]).length [0,1,if g.followed=true then 1 else 0,if g.followed=true then 0 else 1];rw[List.map_append,h.sides,List.map_cons,List.map_nil,isd,List.length_append,List.length_singleton];have hf:=h.MA;have hl4:g.played.length<4:=by omega
   unfold aS
   generalize g.played.length=n at *
   have:n=0∨n=1∨n=2∨n=3:=by omega
   cases hq:g.followed with
   |true=>
    have h2:=hf hq;rcases this with z|z|z|z<;>subst z<;>first|(exfalso;omega)|rfl
   |false=>rcases this with z|z|z|z<;>subst z<;>rfl
  ·intro hq;show 2≤(g.played++[_]).length;rw[List.length_append];have:=h.MA hq;omega
 ·unfold Sh11.Match.opened;rw[en];simp only[];have eo:(if g.aS=0 then g.abs.owed.1 else g.abs.owed.2)=g.eO g.aS:=rfl;rw[eo];unfold abs eQ;simp only[List.map_append,List.map_cons,List.map_nil,ak.KH hs ho hn]
theorem C1{g:ab}(h:g.Ok)(k:Nat):({ g with played:=g.played.modify k (ak.bK 5) }:ab).Pre:=by
 have hm:∀ j∈g.played.modify k (ak.bK 5),∃ i∈g.played,j=i∨j=i.bK 5:=by
  refine mem_modify (P:=fun j=>∃ i∈g.played,j=i∨j=i.bK 5) (fun j hj=>⟨j,hj,.inl rfl⟩) fun j hj=>⟨j,List.mem_of_getElem? hj,.inr rfl⟩
 have hcur:∀ j,({ g with played:=g.played.modify k (ak.bK 5) }:ab).current=some j→∃ i,g.current=some i∧(j=i∨j=i.bK 5):=by
  intro j hj;obtain⟨ps',e',z'⟩:=j3 hj;have e'':g.played.modify k (ak.bK 5)=ps'++[j]:=e';have hlen:g.played.length=ps'.length+1:=by
   have:=congrArg List.length e''
   simpa using this
  rcases a8 g.played with e|⟨ps,i,e⟩
  ·rw[e]at hlen;simp at hlen
  ·have l2:ps.length=ps'.length:=by rw[e]at hlen;simpa using hlen
   have hj2:(g.played.modify k (ak.bK 5))[ps.length]?=some j:=by rw[e'',l2];simp
   rw[dG]at hj2;have hi2:g.played[ps.length]?=some i:=by rw[e];simp
   rw[hi2]at hj2
   split at hj2
   ·have q:i.bK 5=j:=Option.some.inj hj2;subst q;refine⟨i,?_,.inr rfl⟩;rw[kl e,if_pos (show i.ended=0 from z')]
   ·have q:i=j:=Option.some.inj hj2;subst q;refine⟨i,?_,.inl rfl⟩;rw[kl e,if_pos z']
 refine⟨h.rules,?_,?_,?_,?_,?_,?_,?_,?_⟩
 ·intro j hj;obtain⟨i,hi,q|q⟩:=hm j hj
  ·rw[q];exact h.iT i hi
  ·rw[q];exact ak.EX (h.iT i hi) 5
 ·intro j hj;obtain⟨i,hi,q|q⟩:=hm j hj
  ·rw[q];exact h.len i hi
  ·rw[q];exact h.len i hi
 ·show ∀ j∈(g.played.modify k (ak.bK 5)).dropLast,_
  have:(g.played.modify k (ak.bK 5)).dropLast=g.played.dropLast.modify k (ak.bK 5):=by
   apply List.ext_getElem?;intro n;rw[List.getElem?_dropLast,dG,dG,List.getElem?_dropLast,List.length_modify];by_cases q:n<g.played.length-1
   ·simp[q]
   ·simp[q]
  rw[this];exact mem_modify h.old fun j hj=>h.old j (List.mem_of_getElem? hj)
 ·intro hu;have hn:=h.up hu
  cases q:({ g with played:=g.played.modify k (ak.bK 5) }:ab).current with
  |none=>rfl
  |some j=>
   obtain⟨i,hi,_⟩:=hcur j q;rw[hn]at hi;cases hi
 ·show(g.played.modify k _).length≤_;rw[List.length_modify];exact h.AE
 ·intro j hj;obtain⟨i,hi,q|q⟩:=hcur j hj
  ·rw[q];exact A7 (h.fin i hi)
  ·rw[q];exact A7 (h.fin i hi)
 ·show(g.played.modify k (ak.bK 5)).map (·.side)=List.take (g.played.modify k (ak.bK 5)).length _;rw[List.length_modify,gP (·.side) (ak.bK 5) id (fun x=>rfl)];have:(g.played.map (·.side)).modify k id=g.played.map (·.side):=List.modify_id ..;rw[this];exact h.sides
 ·intro hq;show 2≤(g.played.modify k _).length;rw[List.length_modify];exact h.MA hq
theorem MD{g:ab}(h:g.Ok)(side:Nat):(match lastOf side g.played with
  |some k=>({ g with played:=g.played.modify k (ak.bK 5) }:ab)
  |none=>g.eQ side (g.eO side+5)).abs=g.abs.fined side∧(match lastOf side g.played with
  |some k=>({ g with played:=g.played.modify k (ak.bK 5) }:ab)
  |none=>g.eQ side (g.eO side+5)).Pre:=by
 have hl:=Gn side g.played 0;unfold Sh11.Match.fined;have e2:g.abs.innings=g.played.map ak.abs:=rfl;rw[e2]
 cases q:lastOf side g.played with
 |none=>
  rw[q]at hl
  cases w:(((g.played.map ak.abs).zipIdx).filter fun x=>x.1.side==side).getLast? with
  |some x=>rw[w]at hl;cases hl
  |none=>
   simp only[];refine⟨?_,?_⟩
   ·unfold eQ eO abs;by_cases z:side=0<;>simp[z]
   ·have hp:=h.pre;exact⟨hp.rules,hp.iT,hp.len,hp.old,hp.up,hp.AE,hp.fit,hp.sides,hp.MA⟩
 |some k=>
  rw[q]at hl
  cases w:(((g.played.map ak.abs).zipIdx).filter fun x=>x.1.side==side).getLast? with
  |none=>rw[w]at hl;cases hl
  |some x=>
   rw[w]at hl;have hx:x.2=k:=by
    have:=Option.some.inj hl;omega
   simp only[];refine⟨?_,C1 h k⟩;unfold abs;simp only[hx,gg];rw[gP ak.abs (ak.bK 5) (fun i=>{ i with runs:=i.runs+5,penalties:=i.penalties+5 }) (fun x=>rfl)]
end ab
end aq
namespace aq
open Sh11 (Bat Bowl Fall Stand Ball Rules Match Event)
namespace ab
theorem tU(i:ak)(b:Ball)(h:i.Ok)(hw:i.bowler≠11):(i.deliver b).side=i.side∧(i.deliver b).len=i.len∧(i.deliver b).ended=i.ended:=by
 obtain⟨os,x,eo,ew,hx⟩:=h.over hw;obtain⟨st,t,es⟩:∃ st t,i.stands=st++[t]:=by
  rcases a8 i.stands with z|z
  ·exact absurd z h.stands
  ·exact z
 rw[ak.gO eo es];exact⟨rfl,rfl,rfl⟩
theorem empty_false{i:ak}(h:i.aH=false):i.e0≠11∧i.e1≠11:=by
 unfold ak.aH at h
 simpa using h
theorem K4{i:ak}{p most:Nat}{r:Rules}(h:i.Ok)(hp:p≤10)(hr:i.len=r.balls)(hm:most=r.most) :
  qp p i most=true↔(p≤10∧i.abs.bowler=none∧i.abs.last≠some p∧(r.most=0∨((i.abs.bowls[p]?).map fun(x:Bowl)=>x.balls).getD 0 / r.balls<r.most)):=by
 have hl:=h.len;unfold qp;show _↔(p≤10∧ak.opt i.bowler=none∧i.Ah≠some p∧(r.most=0∨(((i.aI.map (·.d9))[p]?).map fun(x:Bowl)=>x.balls).getD 0 / r.balls<r.most));by_cases hb:i.bowler=11
 ·have e1:ak.opt i.bowler=none:=by rw[hb];rfl
  have e2:i.Ah=(i.overs.getLast?).map (·.bowler):=if_pos hb;rw[e1,e2];obtain⟨f,hf⟩:∃ f,i.aI[p]?=some f:=⟨i.aI[p]'(by rw[h.aI];omega),List.getElem?_eq_getElem _⟩
  have hff:=h.PN p f hf;rw[hb,if_neg (show¬p=11 by omega),if_neg (show¬p=11 by omega)]at hff;have e3:(((i.aI.map (·.d9))[p]?).map fun(x:Bowl)=>x.balls).getD 0=i.len*f.overs:=by
   rw[List.getElem?_map,hf];show f.d9.balls=_;omega
  rw[e3,hr,Nat.mul_div_cancel_left _ (show 0<r.balls by omega),hf,hm];simp only[hb,ne_eq,not_true_eq_false,false_or,true_and,hp];by_cases hq:(i.overs.getLast?).map (·.bowler)=some p
  ·simp[hq]
  ·simp[hq]
 ·have e1:ak.opt i.bowler=some i.bowler:=ak.ff hb;rw[e1];simp[hb]
theorem L0{g:ab}(h:g.Ok){e:Event}(he:GY e):g.abs.did e=(g.act e).map abs∧∀ g',g.act e=some g'→g'.Ok:=by
 have hov:=Dp h;have hq:=quiet_eq h.old;unfold Sh11.Match.did;rw[hov]
 cases e with
 |open_ s o=>
  obtain⟨hs,ho,hn⟩:=he;simp only[act]
  cases hv:g.bV with
  |true=>
   refine⟨by simp,fun g' q=>?_⟩;rw[if_pos (.inr rfl)]at q;cases q
  |false=>
   cases hc:g.current with
   |some i=>
    rw[hc]at hq;have hq':g.abs.quiet=false:=hq;refine⟨by simp[hq'],fun g' q=>?_⟩;rw[if_pos (.inl rfl)]at q;cases q
   |none=>
    rw[hc]at hq;have hq':g.abs.quiet=true:=hq;obtain⟨hp,ha⟩:=Jw h hs ho hn hc hv;have ea:(g.jn s o).abs=(g.abs.opened s o).settled:=by
     unfold jn;simp only[];rw[←ha];exact uH hp.iT hp.len hp.fit
    refine⟨?_,fun g' q=>?_⟩
    ·simp[hq',hs,ho,hn,ea]
    ·simp at q;subst q;exact hp.look
 |penalty side=>
  have he':side≤1:=he;simp only[act]
  cases hv:g.bV with
  |true=>exact⟨by simp,fun g' q=>by simp at q⟩
  |false=>
   obtain⟨ha,hp⟩:=MD h side;have ea:(g.kj side).abs=(g.abs.fined side).settled:=by
    unfold kj;rw[←ha];exact uH hp.iT hp.len hp.fit
   refine⟨by simp[he',ea],fun g' q=>?_⟩;simp at q;subst q;exact hp.look
 |follow=>
  simp only[act];have hlead:((g.rules.follow:Int)≤g.lead 0)↔(g.abs.sum 1+g.rules.follow≤g.abs.sum 0):=by
   rw[xn,xn];unfold lead;show(g.rules.follow:Int)≤(g.cU 0:Int)-(g.cU 1:Int)↔_;omega
  have hlen:g.abs.innings.length=g.played.length:=by show(g.played.map ak.abs).length=_;rw[List.length_map]
  have er:g.abs.rules=g.rules:=rfl;have ef:g.abs.follow=g.followed:=rfl;rw[hq,hlen,er,ef];have mf:(g.mM=true)↔(g.bV=false∧g.current.isNone=true∧g.rules.sides=2∧g.played.length=2∧g.followed=false∧0<g.rules.follow∧g.abs.sum 1+g.rules.follow≤g.abs.sum 0):=by
   unfold mM;rw[←hlead];constructor
   ·intro q
    split at q
    ·cases q
    ·rename_i c1
     split at q
     ·cases q
     ·rename_i c2;have q':=of_decide_eq_true q;have c1':g.rules.sides=2∧g.played.length=2∧g.current.isSome=false:=by
       refine⟨?_,?_,?_⟩
       ·apply Classical.byContradiction;intro z;exact c1 (.inl z)
       ·apply Classical.byContradiction;intro z;exact c1 (.inr (.inl z))
       ·cases z:g.current.isSome with
        |true=>exact absurd (.inr (.inr z)) c1
        |false=>rfl
      have c2':g.followed=false∧g.up=false∧0<g.rules.follow:=by
       refine⟨?_,?_,?_⟩
       ·cases z:g.followed with
        |true=>exact absurd (.inl z) c2
        |false=>rfl
       ·cases z:g.up with
        |true=>exact absurd (.inr (.inl z)) c2
        |false=>rfl
       ·apply Nat.pos_of_ne_zero;intro z;exact c2 (.inr (.inr z))
      have hcn:g.current=none:=by
       cases z:g.current with
       |none=>rfl
       |some i=>rw[z]at c1';cases c1'.2.2
      refine⟨?_,by rw[hcn];rfl,c1'.1,c1'.2.1,c2'.1,c2'.2.2,q'⟩;unfold bV bZ fW;rw[c2'.2.1,hcn,c1'.1,c1'.2.1];rfl
   ·rintro⟨hv,hcn,h1,h2,h3,h4,h5⟩
    have hu:g.up=false:=by
     cases z:g.up with
     |true=>unfold bV at hv;rw[z]at hv;cases hv
     |false=>rfl
    have hcn':g.current.isSome=false:=by
     cases z:g.current with
     |none=>rfl
     |some i=>rw[z]at hcn;cases hcn
    rw[if_neg (by rw[h1,h2,hcn'];simp),if_neg (by rw[h3,hu];simp;omega)];exact decide_eq_true h5
  by_cases hm:g.mM=true
  ·have hm':=mf.mp hm;refine⟨?_,fun g' q=>?_⟩
   ·rw[hm,hm'.1];simp only[Bool.false_eq_true,if_false,if_true];rw[if_pos ⟨hm'.2.1,hm'.2.2⟩];rfl
   ·rw[if_pos hm]at q;cases q;refine⟨h.rules,h.iT,h.len,h.old,h.up,h.AE,h.fin,?_,fun _=>by show 2≤g.played.length;omega⟩;have hs:=h.sides;rw[hm'.2.2.2.1]at hs;show g.played.map (·.side)=List.take g.played.length [0,1,_,_];rw[hm'.2.2.2.1,hs];rfl
  ·rw[if_neg hm];refine⟨?_,fun g' q=>by cases q⟩
   cases hv:g.bV with
   |true=>rfl
   |false=>
    simp only[Bool.false_eq_true,if_false];rw[if_neg (fun q=>hm (mf.mpr ⟨hv,q.1,q.2⟩))];rfl
 |draw=>
  simp only[act];rw[gJ];have er:g.abs.rules=g.rules:=rfl;rw[er];unfold zK;rcases a8 g.played with e|⟨ps,i,e⟩
  ·rw[e];refine⟨?_,fun g' q=>by simp at q⟩
   cases g.bV<;>rfl
  ·have el:(ps++[i]).getLast?=some i:=by simp
   have e0:0<g.played.length:=by rw[e];simp
   rw[e]at e0;rw[e,el];simp only[e0,decide_true,Bool.true_and]
   cases hv:g.bV with
   |true=>exact⟨by simp,fun g' q=>by simp at q⟩
   |false=>
    simp only[Bool.false_eq_true,if_false,Bool.not_false,Bool.and_true,Option.map_some,decide_eq_true_eq];by_cases ho:g.rules.overs=0
    ·rw[if_pos ho,if_pos ho];have hc:=kl e;unfold pj;by_cases z:i.ended=0
     ·rw[if_pos z]at hc;rw[hc];simp only[]
      have ea:=iW e (fun i=>{ i with ended:=5 }) (fun i=>if i.going=true then{ i with closed:=5 }else i) (by
       have:i.abs.going=true:=by show(i.ended==0)=true;rw[z];rfl
       rw[if_pos this]
       rfl)
      refine⟨?_,fun g' q=>?_⟩
      ·rw[←ea];rfl
      ·cases q;have hp:=kX h e hc (fun i=>{ i with ended:=5 }) (ak.EY (h.iT i (by rw[e];simp)) 5) rfl rfl (fun q=>by cases q);rw[aG e]at hp ⊢;exact⟨hp.rules,hp.iT,hp.len,hp.old,fun _=>by rw[kl rfl];rfl,hp.AE,fun j hj=>(by rw[kl rfl]at hj;cases hj),hp.sides,hp.MA⟩
     ·rw[if_neg z]at hc;rw[hc];simp only[]
      have ea:=Bv e (fun i=>if i.going=true then{ i with closed:=5 }else i) (by
       have:¬i.abs.going=true:=by show¬((i.ended==0)=true);simpa using z
       rw[if_neg this])
      refine⟨?_,fun g' q=>?_⟩
      ·rw[←ea];rfl
      ·cases q;exact⟨h.rules,h.iT,h.len,h.old,fun _=>hc,h.AE,h.fin,h.sides,h.MA⟩
    ·rw[if_neg ho,if_neg ho];exact⟨rfl,fun g' q=>by cases q⟩
 |bowler p=>
  have hp:p≤10:=he;simp only[act];rw[gJ];rcases pC g with⟨hc,e|⟨ps,i,e,z⟩⟩|⟨ps,i,e,z,hc⟩
  ·rw[hc,e];refine⟨?_,fun g' q=>by cases q⟩
   cases g.bV<;>rfl
  ·have el:(ps++[i]).getLast?=some i:=by simp
   rw[hc,e,el];refine⟨?_,fun g' q=>by cases q⟩;have ng:i.abs.going=false:=by show(i.ended==0)=false;simpa using z
   simp only[Option.map_some,ng]
   cases g.bV<;>rfl
  ·have el:(ps++[i]).getLast?=some i:=by simp
   have hi:=h.iT i (by rw[e];simp);have hli:=h.len i (by rw[e];simp);rw[hc,ic h hc,e,el];have ng:¬i.abs.going=false:=by show¬((i.ended==0)=false);simp[z]
   simp only[Option.map_some,Bool.false_eq_true,if_false];rw[if_neg ng];have hb:=K4 hi hp hli (most:=g.rules.most) rfl;have er:g.abs.rules=g.rules:=rfl;rw[er];by_cases hk:qp p i g.rules.most=true
   ·rw[if_pos hk,if_pos (hb.mp hk)];have hw:i.bowler=11:=by
     have:=(hb.mp hk).2.1;have this':ak.opt i.bowler=none:=this;unfold ak.opt at this'
     split at this'
     ·assumption
     ·cases this'
    refine⟨?_,fun g' q=>?_⟩
    ·rw[Option.map_some,iW e _ (fun(i:Sh11.Innings)=>{ i with bowler:=some p,overRuns:=0,overBalls:=0,notes:=i.notes++[[]] }) (ak.F2 hw hp)]
    ·cases q;have hfin:(i.cj p).fin=i.fin:=by
      unfold ak.fin;rw[if_pos hw];show(if p=11 then _ else(i.overs++[_]).length-1)=_;rw[if_neg (by omega),List.length_append,List.length_singleton,Nat.add_sub_cancel]
     refine (kX h e hc _ (ak.GS hi hw hp) rfl rfl (fun _=>A7 (by rw[hfin];exact h.fin i hc))).ok fun j hj h0=>?_
     rw[aG e,kl rfl]at hj
     split at hj
     ·cases hj;rw[hfin];exact h.fin i hc h0
     ·cases hj
   ·rw[if_neg hk,if_neg (fun q=>hk (hb.mpr q))];exact⟨rfl,fun g' q=>by cases q⟩
 |ball b=>
  have hb0:b.ok=true:=he;have hb:=Kj hb0;simp only[act];rw[gJ];rcases pC g with⟨hc,e|⟨ps,i,e,z⟩⟩|⟨ps,i,e,z,hc⟩
  ·rw[hc,e];refine⟨?_,fun g' q=>by cases q⟩
   cases g.bV<;>rfl
  ·have el:(ps++[i]).getLast?=some i:=by simp
   rw[hc,e,el];refine⟨?_,fun g' q=>by cases q⟩;have ng:i.abs.going=false:=by show(i.ended==0)=false;simpa using z
   simp only[Option.map_some,ng]
   cases g.bV<;>rfl
  ·have el:(ps++[i]).getLast?=some i:=by simp
   have hi:=h.iT i (by rw[e];simp);have hli:=h.len i (by rw[e];simp);rw[hc,ic h hc,e,el];have ng:¬i.abs.going=false:=by show¬((i.ended==0)=false);simp[z]
   simp only[Option.map_some,Bool.false_eq_true,if_false];rw[if_neg ng]
   show(match ak.opt i.bowler,ak.opt i.e0,ak.opt i.e1 with
    |some w,some s,some o=>if b.ok=true then some (g.abs.last fun i=>i.bowled g.rules w s o b).settled else none
    |_,_,_=>none)=_∧_
   by_cases hw:i.bowler=11
   ·rw[if_pos (.inl hw),hw];refine⟨rfl,fun g' q=>by cases q⟩
   ·rw[ak.ff hw]
    cases hs:i.aH with
    |true=>
     rw[if_pos (.inr rfl)];refine⟨?_,fun g' q=>by cases q⟩;unfold ak.aH at hs;simp only[Bool.or_eq_true,beq_iff_eq]at hs;by_cases h0:i.e0=11
     ·rw[h0];rfl
     ·have h1:i.e1=11:=by omega
      rw[h1,ak.ff h0];rfl
    |false=>
     obtain⟨h0,h1⟩:=empty_false hs;rw[ak.ff h0,ak.ff h1,if_neg (by simp[hw])];obtain⟨ds,dl,de⟩:=tU i b hi hw;have hp:=kX h e hc _ (ak.EU hi hb h0 h1 hw) dl ds (fun _=>ak.JN hi hw (h.fin i hc));refine⟨?_,fun g' q=>?_⟩
     ·simp only[hb0,if_true,Option.map_some];rw[uH hp.iT hp.len hp.fit,iW e _ (fun i'=>i'.bowled g.rules i.bowler i.e0 i.e1 b) (ak.Jy hi hb hli.symm h0 h1 hw)]
     ·cases q;exact hp.look
 |in_ p=>
  have hp:p≤10:=he;simp only[act];rw[gJ];rcases pC g with⟨hc,e|⟨ps,i,e,z⟩⟩|⟨ps,i,e,z,hc⟩
  ·rw[hc,e];refine⟨?_,fun g' q=>by cases q⟩
   cases g.bV<;>rfl
  ·have el:(ps++[i]).getLast?=some i:=by simp
   rw[hc,e,el];refine⟨?_,fun g' q=>by cases q⟩;have ng:i.abs.going=false:=by show(i.ended==0)=false;simpa using z
   simp only[Option.map_some,ng]
   cases g.bV<;>rfl
  ·have el:(ps++[i]).getLast?=some i:=by simp
   have hi:=h.iT i (by rw[e];simp);rw[hc,ic h hc,e,el];have ng:¬i.abs.going=false:=by show¬((i.ended==0)=false);simp[z]
   simp only[Option.map_some,Bool.false_eq_true,if_false];rw[if_neg ng,ak.Al];obtain⟨x,hx⟩:=ak.ir hi hp;have hav:i.abs.available.contains p=bI x:=by
    cases hm:bI x with
    |true=>rw[List.contains_iff_mem];exact (ak.pD hi p).mpr ⟨hp,x,hx,hm⟩
    |false=>
     rw[Bool.eq_false_iff];intro q;rw[List.contains_iff_mem]at q;obtain⟨_,y,hy,hm'⟩:=(ak.pD hi p).mp q;rw[hx]at hy;cases hy;rw[hm]at hm'
     cases hm'
   rw[hav,hx];simp only[Option.map_some,Option.getD_some];by_cases hk:i.aH=true∧bI x=true
   ·rw[if_pos hk,if_neg (by rw[hk.1,hk.2];simp)];have efin:(i.gb p).fin=i.fin∧(i.gb p).len=i.len∧(i.gb p).side=i.side:=by
     rw[ak.jc hx];exact⟨rfl,rfl,rfl⟩
    refine⟨?_,fun g' q=>?_⟩
    ·rw[Option.map_some,iW e _ (fun i=>i.came p) (ak.Lu hi hp hk.1)]
    ·cases q;refine (kX h e hc _ (ak.Mm hi hp hk.1 (fun y hy=>by rw[hx]at hy;cases hy;exact hk.2)) efin.2.1 efin.2.2 (fun _=>A7 (by rw[efin.1];exact h.fin i hc))).ok fun j hj h0=>?_
     rw[aG e,kl rfl]at hj
     split at hj
     ·cases hj;rw[efin.1];exact h.fin i hc h0
     ·cases hj
   ·rw[if_neg hk,if_pos (by
     cases q1:i.aH with
     |false=>exact .inl rfl
     |true=>
      right
      cases q2:bI x with
      |false=>rfl
      |true=>exact absurd ⟨q1,q2⟩ hk)]
    exact⟨rfl,fun g' q=>by cases q⟩
 |retire en hurt=>
  have hp:en≤1:=he;simp only[act];rw[gJ];rcases pC g with⟨hc,e|⟨ps,i,e,z⟩⟩|⟨ps,i,e,z,hc⟩
  ·rw[hc,e];refine⟨?_,fun g' q=>by cases q⟩
   cases g.bV<;>rfl
  ·have el:(ps++[i]).getLast?=some i:=by simp
   rw[hc,e,el];refine⟨?_,fun g' q=>by cases q⟩;have ng:i.abs.going=false:=by show(i.ended==0)=false;simpa using z
   simp only[Option.map_some,ng]
   cases g.bV<;>rfl
  ·have el:(ps++[i]).getLast?=some i:=by simp
   have hi:=h.iT i (by rw[e];simp);rw[hc,ic h hc,e,el];have ng:¬i.abs.going=false:=by show¬((i.ended==0)=false);simp[z]
   simp only[Option.map_some,Bool.false_eq_true,if_false];rw[if_neg ng,ak.Al]
   cases hs:i.aH with
   |true=>
    rw[if_pos rfl];refine⟨by simp,fun g' q=>by cases q⟩
   |false=>
    obtain⟨h0,h1⟩:=empty_false hs;simp only[Bool.false_eq_true,if_false,hp,and_self,if_true];have hh:((if hurt=true then 1 else 0:Nat)==1)=hurt:=by cases hurt<;>rfl
    have efin:(i.retire en (if hurt=true then 1 else 0)).fin=i.fin∧(i.retire en (if hurt=true then 1 else 0)).len=i.len∧(i.retire en (if hurt=true then 1 else 0)).side=i.side:=by
     unfold ak.retire
     cases hurt<;>exact⟨rfl,rfl,rfl⟩
    have ea:=ak.K5 (e:=en) (hurt:=if hurt=true then 1 else 0) hi h0 h1;rw[hh]at ea;have hpre:=kX h e hc _ (ak.Gg (e:=en) (hurt:=if hurt=true then 1 else 0) hi h0 h1) efin.2.1 efin.2.2 (fun _=>A7 (by rw[efin.1];exact h.fin i hc));refine⟨?_,fun g' q=>?_⟩
    ·rw[Option.map_some,uH hpre.iT hpre.len hpre.fit,iW e _ (fun i=>i.went en (((if en=0 then i.striker else i.other)).getD Sh11.NOBODY) hurt) ea]
    ·cases q;exact hpre.look
 |declare=>
  simp only[act];rw[gJ];rcases pC g with⟨hc,e|⟨ps,i,e,z⟩⟩|⟨ps,i,e,z,hc⟩
  ·rw[hc,e];refine⟨?_,fun g' q=>by cases q⟩
   cases g.bV<;>rfl
  ·have el:(ps++[i]).getLast?=some i:=by simp
   rw[hc,e,el];refine⟨?_,fun g' q=>by cases q⟩;have ng:i.abs.going=false:=by show(i.ended==0)=false;simpa using z
   simp only[Option.map_some,ng]
   cases g.bV<;>rfl
  ·have el:(ps++[i]).getLast?=some i:=by simp
   have hi:=h.iT i (by rw[e];simp);rw[hc,ic h hc,e,el];have ng:¬i.abs.going=false:=by show¬((i.ended==0)=false);simp[z]
   simp only[Option.map_some,Bool.false_eq_true,if_false];rw[if_neg ng,ak.Al];have ho:=ak.Hu hi;have er:g.abs.rules=g.rules:=rfl;rw[er];have fin:∀ n:Nat,n≠0→∀ g',some (g.cb fun j=>{ j with ended:=n })=some g'→g'.Ok:=fun n hn g' q=>by
    cases q;refine (kX h e hc (fun j=>{ j with ended:=n }) (ak.EY hi n) rfl rfl (fun q=>absurd q hn)).ok fun j hj h0=>?_
    rw[aG e,kl rfl]at hj;rw[if_neg hn]at hj;cases hj
   by_cases c1:i.aH=true∧i.vY=false
   ·have ew:g.b9 i=1:=by unfold b9;rw[if_pos c1]
    rw[if_pos ⟨c1.1,ho.mpr c1.2⟩,ew,if_neg (by decide)];refine⟨?_,fin 1 (by decide)⟩;rw[Option.map_some,iW e _ (fun i=>{ i with closed:=1 }) rfl]
   ·rw[if_neg (fun q=>c1 ⟨q.1,ho.mp q.2⟩)];by_cases c2:g.rules.overs=0
    ·have ew:g.b9 i=2:=by unfold b9;rw[if_neg c1,if_pos c2]
     rw[if_pos c2,ew,if_neg (by decide)];refine⟨?_,fin 2 (by decide)⟩;rw[Option.map_some,iW e _ (fun i=>{ i with closed:=2 }) rfl]
    ·have ew:g.b9 i=0:=by unfold b9;rw[if_neg c1,if_neg c2]
     rw[if_neg c2,ew,if_pos rfl];exact⟨rfl,fun g' q=>by cases q⟩
end ab
end aq
namespace aq
open Sh11 (Rules Match Event St Comes)
theorem Gf(r:Rules)(e:Event):∀(l:List Event)(m:Match),Sh11.again r (l++[e]) m=((Sh11.again r l m).did e).getD (Sh11.again r l m)
 |[],m=>rfl
 |a::l,m=>by
  show Sh11.again r (l++[e]) ((m.did a).getD m)=_;rw[Gf r e l];rfl
theorem wU{r:Rules}{l:List Event}{m:Match}(h:Comes r l m):Sh11.again r l (Sh11.start r)=m:=by
 induction h with
 |start=>rfl
 |next l m n e _ hd ih=>rw[Gf,ih,hd];rfl
theorem Kl{r:Rules}{l:List Event}{e:Event}{n:Match}(h:Comes r (l++[e]) n):∃ m,Comes r l m∧m.did e=some n:=by
 generalize q:l++[e]=k at h
 cases h with
 |start=>simp at q
 |next l' m _ e' hc hd=>
  have:=List.append_inj' q rfl;obtain⟨a,b⟩:=this;cases b;subst a;exact⟨m,hc,hd⟩
def NK(s:St):Prop:=Comes s.rules s.log s.now
theorem L6{s:St}{l:List Event}{e:Event}(h:NK s)(hl:s.log=l++[e]):∃ m,Comes s.rules l m∧m.did e=some s.now∧s.undone=⟨s.rules,l,m⟩:=by
 unfold NK at h;rw[hl]at h;obtain⟨m,hc,hd⟩:=Kl h;refine⟨m,hc,hd,?_⟩;unfold Sh11.St.undone;rw[hl];simp only[List.dropLast_concat];rw[wU hc]
end aq
namespace N
open Sh11 (Bat Bowl Fall Stand Ball Rules Bytes)
open aq (extra cF g8 fR bc boundary a7 gI)
structure Over where
 bowler:Nat
 first:Nat
 balls:Nat
 runs:Nat
structure bB where
 runs:Nat
 balls:Nat
 wides:Nat
 noBalls:Nat
 byes:Nat
 legByes:Nat
 qO:Nat
structure ak where
 side:Nat
 len:Nat
 ended:Nat
 e0:Nat
 e1:Nat
 sums:bB
 bats:List Bat
 aI:List Bowl
 overs:List Over
 told:List Bytes
 falls:List Fall
 stands:List Stand
noncomputable def gx(b:Ball)(k:Nat):Nat:=if b.kind=k then 1 else 0
noncomputable def ud(b:Ball)(k:Nat):Nat:=if b.off=k then b.runs else 0
noncomputable def jW(b:Ball)(x:Bat):Bat:=
 if b.kind=1 then x else⟨x.place,x.runs+fR b,x.balls+1,x.fours+(if boundary b 4=true then 1 else 0),x.sixes+(if boundary b 6=true then 1 else 0),x.how,x.bowler,x.fielder⟩
noncomputable def Ds(how bowler fielder:Nat)(x:Bat):Bat:=⟨x.place,x.runs,x.balls,x.fours,x.sixes,how,bowler,fielder⟩
noncomputable def kf(place:Nat)(x:Bat):Bat:=⟨place,x.runs,x.balls,x.fours,x.sixes,0,11,11⟩
noncomputable def tm(b:Ball)(x:Bowl):Bowl:=⟨x.balls+gx b 0,x.maidens,x.runs+bc b,x.wickets+(if a7 b=true then 1 else 0),x.wides+gx b 1,x.noBalls+gx b 2⟩
noncomputable def mq(x:Bowl):Bowl:=⟨x.balls,x.maidens+1,x.runs,x.wickets,x.wides,x.noBalls⟩
noncomputable def cY(b:Ball)(x:Over):Over:=⟨x.bowler,x.first,x.balls+gx b 0,x.runs+bc b⟩
noncomputable def mC(b:Ball)(x:Stand):Stand:=⟨x.one,x.two,x.runs+cF b,x.balls+gx b 0⟩
noncomputable def gy(b:Ball)(x:bB):bB:=⟨x.runs+cF b,x.balls+gx b 0,x.wides+gx b 1*cF b,x.noBalls+gx b 2,x.byes+ud b 1,x.legByes+ud b 2,x.qO⟩
noncomputable def v7(n:Nat)(x:bB):bB:=⟨x.runs+n,x.balls,x.wides,x.noBalls,x.byes,x.legByes,x.qO+n⟩
noncomputable def sX:Bowl:=⟨0,0,0,0,0,0⟩
namespace ak
noncomputable def jO(i:ak):Nat:=(i.bats.filter fun b=>decide (0<b.place)).length
noncomputable def bG(p:Nat)(i:ak):ak:={ i with bats:=i.bats.modify p fun x=>kf (if x.place=0 then i.jO+1 else x.place) x }
noncomputable def fresh(side len s o:Nat):ak:=⟨side,len,0,s,o,⟨0,0,0,0,0,0,0⟩,List.replicate 11 Sh11.freshBat,List.replicate 11 sX,[],[],[],[⟨s,o,0,0⟩]⟩
noncomputable def start(side len s o:Nat):ak:=bG o (bG s (fresh side len s o))
noncomputable def aH(i:ak):Bool:=i.e0==11||i.e1==11
noncomputable def dD(i:ak):Bool:=i.bats.any aq.bI
noncomputable def gb(p:Nat)(i:ak):ak:=
 bG p { i with stands:=i.stands++[⟨if i.e0=11 then i.e1 else i.e0,p,0,0⟩],e0:=if i.e0=11 then p else i.e0,e1:=if i.e0=11 then i.e1 else p }
noncomputable def jm(i:ak):Bool:=match i.overs.getLast? with
 |some o=>decide (o.balls<i.len)
 |none=>false
noncomputable def cW(i:ak):Nat:=if i.jm=true then((i.overs.getLast?).map (·.bowler)).getD 11 else 11
noncomputable def kP(p:Nat)(i:ak):Bool:=match i.overs.getLast? with
 |some o=>decide (o.bowler=p)
 |none=>false
noncomputable def LW(p:Nat)(i:ak):Nat:=(i.overs.filter fun o=>decide (o.bowler=p)).length
noncomputable def cj(p:Nat)(i:ak):ak:={ i with overs:=i.overs++[⟨p,i.told.length,0,0⟩] }
noncomputable def cp(n:Nat)(i:ak):Bool:=decide (i.overs.length=n)&&!i.jm
noncomputable def c9(i:ak):ak:={ i with e0:=i.e1,e1:=i.e0 }
noncomputable def mU(p how bowler fielder:Nat)(i:ak):ak:=
 { i with bats:=i.bats.modify p (Ds how bowler fielder),falls:=if how=9 then i.falls else i.falls++[⟨i.sums.runs,p,i.sums.balls⟩] }
noncomputable def eY(b:Ball)(i:ak):ak:=
 let left:=if b.out=0 then i.e1 else i.e0
 { i.mU (if b.out=0 then i.e0 else i.e1) b.how (if a7 b=true then i.cW else 11) b.fielder with e0:=if b.end_=0 then 11 else left,e1:=if b.end_=0 then left else 11 }
noncomputable def aJ(b:Ball)(i:ak):ak:=if b.how≠0 then eY b i else if b.runs % 2=1 then c9 i else i
noncomputable def gh(i:ak):ak:=
 c9 (match i.overs.getLast? with
  |some o=>if o.runs=0 then{ i with aI:=i.aI.modify o.bowler mq }else i
  |none=>i)
noncomputable def bX(b:Ball)(i:ak):ak:=
 { i with sums:=gy b i.sums,bats:=i.bats.modify i.e0 (jW b),aI:=i.aI.modify i.cW (tm b),stands:=gI (mC b) i.stands }
noncomputable def jS(b:Ball)(i:ak):ak:={ i with overs:=gI (cY b) i.overs,told:=i.told++[b.written] }
noncomputable def deliver(b:Ball)(i:ak):ak:=
 let j:=jS b (aJ b (bX b i))
 if j.jm=true then j else gh j
noncomputable def retire(e hurt:Nat)(i:ak):ak:=
 { i.mU (if e=0 then i.e0 else i.e1) (if hurt=1 then 9 else 10) 11 11 with e0:=if e=0 then 11 else i.e0,e1:=if e=0 then i.e1 else 11 }
noncomputable def bK(n:Nat)(i:ak):ak:={ i with sums:=v7 n i.sums }
end ak
noncomputable def kD(n:Nat):List aq.Over→List Over
 |[]=>[]
 |o::r=>⟨o.bowler,n,o.balls,o.runs⟩::kD (n+o.notes.length) r
noncomputable def bg(l:List aq.Over):List Bytes:=l.flatMap (·.notes)
noncomputable def proj(i:aq.ak):ak:=
 ⟨i.side,i.len,i.ended,i.e0,i.e1,⟨i.runs,i.balls,i.wides,i.noBalls,i.byes,i.legByes,i.qO⟩,i.bats,i.aI.map (·.d9),kD 0 i.overs,bg i.overs,i.falls,i.stands⟩
theorem qC:∀(n:Nat)(l:List aq.Over)(o:aq.Over),kD n (l++[o])=kD n l++[⟨o.bowler,n+(bg l).length,o.balls,o.runs⟩]
 |n,[],o=>by simp[kD,bg]
 |n,a::r,o=>by
  show _::kD (n+a.notes.length) (r++[o])=_;rw[qC];simp[kD,bg,Nat.add_assoc]
theorem DR:∀(n:Nat)(l:List aq.Over),(kD n l).length=l.length
 |_,[]=>rfl
 |n,a::r=>by show(kD _ r).length+1=_;rw[DR];rfl
theorem kS(l:List aq.Over)(o:aq.Over):bg (l++[o])=bg l++o.notes:=by simp[bg]
structure Ex(i:aq.ak):Prop where
 falls:i.falls.length=i.wickets
 Hk:∀ p f,i.aI[p]?=some f→f.overs=(i.overs.filter fun o=>decide (o.bowler=p)).length
 idle:i.bowler=11→∀ os o,i.overs=os++[o]→i.len≤o.balls
 GK:∀ o∈i.overs,o.bowler≤10
 LS:i.e0≠11∨i.e1≠11
theorem E5{i:aq.ak}{os:List aq.Over}{x:aq.Over}(e:i.overs=os++[x]):(proj i).overs.getLast?=some ⟨x.bowler,(bg os).length,x.balls,x.runs⟩:=by
 show(kD 0 i.overs).getLast?=_;rw[e,qC];simp
theorem tE{i:aq.ak}(h:i.Ok)(x:Ex i):(proj i).jm=decide (i.bowler≠11):=by
 unfold ak.jm;rcases aq.a8 i.overs with e|⟨os,o,e⟩
 ·have:(proj i).overs.getLast?=none:=by show(kD 0 i.overs).getLast?=_;rw[e];rfl
  rw[this];symm;refine decide_eq_false fun hb=>?_
  obtain⟨os,x,eo,_⟩:=h.over hb;rw[e]at eo;simp at eo
 ·rw[E5 e];show decide (o.balls<i.len)=_;rw[decide_eq_decide];constructor
  ·intro hl hb;have:=x.idle hb os o e;omega
  ·intro hb;obtain⟨os',x',eo,_,hl⟩:=h.over hb;rw[e]at eo;obtain⟨_,q⟩:=List.append_inj' eo rfl;cases q;exact hl
theorem B7{i:aq.ak}(h:i.Ok)(x:Ex i):(proj i).cW=i.bowler:=by
 unfold ak.cW;rw[tE h x];by_cases hb:i.bowler=11
 ·rw[if_neg (by simp[hb]),hb]
 ·rw[if_pos (by simp[hb])];obtain⟨os',x',eo,ew,hl⟩:=h.over hb;rw[E5 eo];exact ew
theorem Fi(b:Ball):jW b=aq.face b:=by
 funext x
 unfold jW aq.face;split
 ·rfl
 ·rw[aq.j5,aq.j5]
theorem zc(b:Ball):gx b 0=b.fair:=rfl
theorem Fz(b:Ball)(y:aq.Ka):(aq.dA b y).d9=tm b y.d9:=by
 rw[aq.uI];unfold aq.HC tm gx Sh11.Ball.fair;simp only[aq.Kz,Nat.add_zero]
theorem Dx(y:aq.Ka):(aq.Hz y).d9=mq y.d9:=rfl
theorem FA(b:Ball):mC b=aq.gF b:=by
 funext x
 unfold mC aq.gF gx;rw[aq.j5]
theorem MS{b:Ball}{n:Nat}{os:List aq.Over}{x:aq.Over}:gI (cY b) (kD n (os++[x]))=kD n (os++[aq.b7 b x]):=by
 rw[qC,qC,aq.ie];unfold cY aq.b7 gx;simp only[aq.j5]
theorem zL{i:aq.ak}{b:Ball}(h:i.Ok)(x:Ex i)(hb:aq.ku b)(hw:i.bowler≠11):proj (i.deliver b)=(proj i).deliver b:=by
 obtain⟨os,y,eo,ew,hx⟩:=h.over hw;obtain⟨st,t,es⟩:∃ st t,i.stands=st++[t]:=by
  rcases aq.a8 i.stands with z|z
  ·exact absurd z h.stands
  ·exact z
 have hwb:=B7 h x;rw[aq.ak.gO eo es];have e1:(proj i).bX b={ proj i with sums:=gy b (proj i).sums,bats:=i.bats.modify i.e0 (aq.face b),aI:=(i.aI.modify i.bowler (aq.dA b)).map (·.d9),stands:=st++[aq.gF b t] }:=by
  unfold ak.bX;rw[hwb,Fi,FA,aq.gP _ _ _ (Fz b)];show({ proj i with sums:=_,bats:=_,aI:=_,stands:=gI _ i.stands }:ak)=_;rw[es,aq.ie];rfl
 have e2:((proj i).bX b).cW=i.bowler:=by
  have:((proj i).bX b).cW=(proj i).cW:=rfl;rw[this,hwb]
 have e3:∀ j:ak,j.overs=(proj i).overs→j.len=i.len→(ak.jS b j).jm=decide (y.balls+b.fair≠i.len)∧(ak.jS b j).overs.getLast?=some (cY b ⟨y.bowler,(bg os).length,y.balls,y.runs⟩):=by
  intro j ho hl;have:(ak.jS b j).overs.getLast?=some (cY b ⟨y.bowler,(bg os).length,y.balls,y.runs⟩):=by
   show(gI (cY b) j.overs).getLast?=_;rw[ho];show(gI (cY b) (kD 0 i.overs)).getLast?=_;rw[eo,qC,aq.ie];simp
  refine⟨?_,this⟩;unfold ak.jm;rw[this];show decide (y.balls+gx b 0<(ak.jS b j).len)=_;have hl':(ak.jS b j).len=i.len:=hl;rw[hl',zc,decide_eq_decide];have:=aq.ak.LI b;omega
 have hm:∀ j:ak,(ak.aJ b j).overs=j.overs∧(ak.aJ b j).len=j.len∧(ak.aJ b j).aI=j.aI∧(ak.aJ b j).told=j.told:=by
  intro j;unfold ak.aJ;split
  ·exact⟨rfl,rfl,rfl,rfl⟩
  ·split<;>exact⟨rfl,rfl,rfl,rfl⟩
 unfold ak.deliver;simp only[];obtain⟨g1,g2⟩:=e3 (ak.aJ b ((proj i).bX b)) (hm _).1 (hm _).2.1;rw[g1];have eov:kD 0 (os++[aq.b7 b y])=gI (cY b) (proj i).overs:=by
  show _=gI (cY b) (kD 0 i.overs);rw[eo,MS]
 have ent:bg (os++[aq.b7 b y])=(proj i).told++[b.written]:=by
  show _=bg i.overs++_;rw[eo,kS,kS,List.append_assoc];rfl
 have esum:(proj (aq.ak.b5 i b os y st t)).sums=gy b (proj i).sums:=by
  unfold aq.ak.b5 proj gy gx ud;simp only[aq.j5,Sh11.Ball.fair,bB.mk.injEq,true_and,and_true];refine⟨?_,?_⟩
  ·by_cases k:b.kind=1<;>simp[k]
  ·by_cases k:b.kind=2<;>simp[k,aq.extra]
 have hfig:(aq.ak.b5 i b os y st t).aI.map (·.d9)=if y.balls+b.fair=i.len∧y.runs+bc b=0 then((i.aI.modify i.bowler (aq.dA b)).map (·.d9)).modify i.bowler mq else(i.aI.modify i.bowler (aq.dA b)).map (·.d9):=by
  unfold aq.ak.b5;simp only[];split
  ·rw[aq.gP (·.d9) aq.Hz mq Dx]
  ·rfl
 have key:proj (aq.ak.b5 i b os y st t)=⟨i.side,i.len,i.ended,(aq.ak.b5 i b os y st t).e0,(aq.ak.b5 i b os y st t).e1,gy b (proj i).sums,(aq.ak.b5 i b os y st t).bats,(aq.ak.b5 i b os y st t).aI.map (·.d9),gI (cY b) (proj i).overs,(proj i).told++[b.written],(aq.ak.b5 i b os y st t).falls,st++[aq.gF b t]⟩:=by
  rw[←esum,←eov,←ent];rfl
 rw[key,hfig];have fin:∀ j:ak,(ak.jS b j).overs.getLast?=some (cY b ⟨y.bowler,(bg os).length,y.balls,y.runs⟩)→
   ak.gh (ak.jS b j)=ak.c9 { ak.jS b j with aI:=if y.runs+bc b=0 then j.aI.modify y.bowler mq else j.aI }:=by
  intro j hj;unfold ak.gh;rw[hj];show ak.c9 (if y.runs+bc b=0 then _ else _)=_
  split<;>rfl
 by_cases hd:y.balls+b.fair=i.len
 ·rw[if_neg (show¬decide (y.balls+b.fair≠i.len)=true by simp[hd]),fin _ g2,(hm _).2.2.1,e1,ew];unfold ak.aJ;by_cases hh:b.how=0
  ·rw[if_neg (show¬(b.how≠0) by simpa using hh)];unfold aq.ak.b5;simp only[hh,if_true,hd,aq.ak.b8,true_and,ak.c9,ak.jS];by_cases q:b.runs % 2=1<;>simp[q,proj]
  ·rw[if_pos (show b.how≠0 from hh)];unfold aq.ak.b5 ak.eY;rw[←e1,e2,e1];have h9:b.how≠9:=by have:=hb.how;omega
   simp only[hh,if_false,hd,if_true,aq.ak.b8,true_and,ak.c9,ak.jS,ak.mU,h9,aq.ak.qz];by_cases q:b.end_=0<;>by_cases q2:b.out=0<;>simp[q,q2,proj,gy,zc,hh]<;>rfl
 ·rw[if_pos (show decide (y.balls+b.fair≠i.len)=true by simp[hd]),e1];unfold ak.aJ;by_cases hh:b.how=0
  ·rw[if_neg (show¬(b.how≠0) by simpa using hh)];unfold aq.ak.b5;simp only[hh,if_true,hd,if_false,aq.ak.b8,false_and,ak.c9,ak.jS];by_cases q:b.runs % 2=1<;>simp[q,proj]
  ·rw[if_pos (show b.how≠0 from hh)];unfold aq.ak.b5 ak.eY;rw[←e1,e2,e1];have h9:b.how≠9:=by have:=hb.how;omega
   simp only[hh,if_false,hd,aq.ak.b8,false_and,ak.c9,ak.jS,ak.mU,h9,aq.ak.qz];by_cases q:b.end_=0<;>by_cases q2:b.out=0<;>simp[q,q2,proj,gy,zc,hh]<;>rfl
end N
namespace N
open Sh11 (Bat Bowl Fall Stand Ball Rules Bytes)
open aq (extra cF g8 fR bc boundary a7 gI)
theorem Gm{i:aq.ak}(h:i.Ok):(proj i).jO=i.eW:=by
 rw[h.eW];unfold ak.jO;show(i.bats.filter _).length=_
 congr 2
 funext b
 by_cases z:b.place=0
 ·simp[z]
 ·have:0<b.place:=by omega
  simp[z,this]
theorem wq(i:aq.ak)(p:Nat):proj (i.cj p)=(proj i).cj p:=by
 have eF:(i.aI.modify p fun x=>{ x with overs:=x.overs+1 }).map (·.d9)=i.aI.map (·.d9):=by
  rw[aq.gP (·.d9) (fun x:aq.Ka=>{ x with overs:=x.overs+1 }) id (fun x=>rfl)];exact List.modify_id ..
 unfold aq.ak.cj proj ak.cj;simp only[eF,qC,kS,List.append_nil,Nat.zero_add]
theorem Hh(i:aq.ak)(n:Nat):proj (i.bK n)=(proj i).bK n:=rfl
theorem B9(i:aq.ak)(e hurt:Nat):proj (i.retire e hurt)=(proj i).retire e hurt:=by
 unfold aq.ak.retire ak.retire ak.mU;by_cases h:hurt=1
 ·simp only[h,if_true];rfl
 ·simp only[h,if_false,aq.ak.lH];rfl
theorem O1{i:aq.ak}(h:i.Ok){p:Nat}(ha:∀ x,i.bats[p]?=some x→aq.bI x=true) :
  i.bats.modify p (fun y=>({ y with place:=if y.place=0 then i.eW+1 else y.place,how:=0 }:Bat))=i.bats.modify p fun x=>kf (if x.place=0 then i.eW+1 else x.place) x:=by
 refine aq.fX _ _ fun x hx=>?_
 have hm:=ha x hx;have ho:=h.Oo x (List.mem_of_getElem? hx);have h9:x.how=0∨x.how=9:=by
  unfold aq.bI at hm;simp only[Bool.or_eq_true,beq_iff_eq]at hm;rcases hm with z|z
  ·exact .inl (ho.fresh z)
  ·exact .inr z
 obtain⟨b1,b2⟩:=ho.none h9;unfold kf;simp only[b1,b2]
theorem BZ{i:aq.ak}{p:Nat}(h:i.Ok)(hp:p≤10)(ha:∀ x,i.bats[p]?=some x→aq.bI x=true):proj (i.gb p)=(proj i).gb p:=by
 obtain⟨x,hx⟩:=aq.ak.ir h hp;rw[aq.ak.jc hx];have hb:=Gm h;have e:∀ j:ak,j.bats=i.bats→j.jO=i.eW:=fun j e=>by
  rw[←hb];unfold ak.jO;rw[e];rfl
 unfold ak.gb ak.bG;rw[e _ rfl];unfold proj;simp only[O1 h ha]
theorem Ll{s o:Nat}(hs:s≤10)(ho:o≤10)(hn:s≠o):(((List.replicate 11 Sh11.freshBat).modify s fun x=>({ x with place:=1 }:Bat)).filter fun b=>decide (0<b.place)).length=1:=by
 have c1:=aq.eI (fun b:Bat=>decide (0<b.place)) (fun x=>{ x with place:=1 }) (List.replicate 11 Sh11.freshBat) s Sh11.freshBat (by rw[List.getElem?_replicate,if_pos (by omega)]);have c0:((List.replicate 11 Sh11.freshBat).filter fun b=>decide (0<b.place)).length=0:=by decide
 rw[c0]at c1;have k1:(if(decide (0<Sh11.freshBat.place))=true then 1 else 0)=0:=rfl;have k2:(if(decide (0<({ Sh11.freshBat with place:=1 }:Bat).place))=true then 1 else 0)=1:=rfl;exact ((congrArg (fun z=>_+z) k1).symm.trans c1).trans (congrArg (fun z=>0+z) k2)
theorem Jm{side len owed s o:Nat}(hs:s≤10)(ho:o≤10)(hn:s≠o):proj (aq.ak.opened side len owed s o)=(ak.start side len s o).bK owed:=by
 rw[aq.ak.fN];have e0:(ak.fresh side len s o).jO=0:=by show((List.replicate 11 Sh11.freshBat).filter fun b=>decide (0<b.place)).length=0;decide
 have b1:(List.replicate 11 Sh11.freshBat).modify s (fun x=>kf (if x.place=0 then 0+1 else x.place) x)=(List.replicate 11 Sh11.freshBat).modify s fun x=>({ x with place:=1 }:Bat):=by
  refine aq.fX _ _ fun x hx=>?_
  have:=List.eq_of_mem_replicate (List.mem_of_getElem? hx);subst this;rfl
 have g1:ak.bG s (ak.fresh side len s o)={ ak.fresh side len s o with bats:=(List.replicate 11 Sh11.freshBat).modify s fun x=>({ x with place:=1 }:Bat) }:=by
  unfold ak.bG;rw[e0,←b1];rfl
 have e1:(ak.bG s (ak.fresh side len s o)).jO=1:=by
  rw[g1];exact Ll hs ho hn
 have b2:((List.replicate 11 Sh11.freshBat).modify s fun x=>({ x with place:=1 }:Bat)).modify o (fun x=>kf (if x.place=0 then 1+1 else x.place) x)=((List.replicate 11 Sh11.freshBat).modify s fun x=>({ x with place:=1 }:Bat)).modify o (fun x=>{ x with place:=2 }):=by
  refine aq.fX _ _ fun x hx=>?_
  rw[aq.bT _ _ hn]at hx;have:=List.eq_of_mem_replicate (List.mem_of_getElem? hx);subst this;rfl
 unfold ak.start;unfold ak.bG;show _=ak.bK owed { ak.bG s (ak.fresh side len s o)with bats:=(ak.bG s (ak.fresh side len s o)).bats.modify o fun x=>kf (if x.place=0 then(ak.bG s (ak.fresh side len s o)).jO+1 else x.place) x };rw[e1,g1];show _=ak.bK owed ⟨side,len,0,s,o,_,((List.replicate 11 Sh11.freshBat).modify s fun x=>({ x with place:=1 }:Bat)).modify o (fun x=>kf (if x.place=0 then 1+1 else x.place) x),List.replicate 11 sX,[],[],[],_⟩;rw[b2];unfold proj ak.bK v7;simp only[kD,bg,sX,Nat.zero_add,List.map_replicate,List.flatMap_nil,ak.fresh]
theorem mT{i:aq.ak}(h:i.Ok)(x:Ex i)(n:Nat):(proj i).cp n=i.cp n:=by
 unfold ak.cp aq.ak.cp;rw[tE h x];have:(proj i).overs.length=i.overs.length:=DR 0 _;rw[this]
 congr 1
 by_cases z:i.bowler=11<;>simp[z]
theorem xp(p:Nat):∀(n:Nat)(l:List aq.Over),((kD n l).filter fun o=>decide (o.bowler=p)).length=(l.filter fun o=>decide (o.bowler=p)).length
 |_,[]=>rfl
 |n,a::r=>by
  show((_::kD _ r).filter _).length=_;rw[List.filter_cons,List.filter_cons];simp only[];split
  ·simp[xp p _ r]
  ·exact xp p _ r
theorem Ku{i:aq.ak}(x:Ex i){p:Nat}{f:aq.Ka}(hf:i.aI[p]?=some f):(proj i).LW p=f.overs:=by
 rw[x.Hk p f hf];exact xp p 0 _
theorem Fn(i:aq.ak)(p:Nat):(proj i).kP p=decide ((i.overs.getLast?).map (·.bowler)=some p):=by
 unfold ak.kP;rcases aq.a8 i.overs with e|⟨os,o,e⟩
 ·have:(proj i).overs.getLast?=none:=by show(kD 0 i.overs).getLast?=_;rw[e];rfl
  rw[this,e];rfl
 ·rw[E5 e,e];simp
theorem BA{side len owed s o:Nat}(hs:s≤10):Ex (aq.ak.opened side len owed s o):=by
 rw[aq.ak.fN];refine⟨rfl,fun p f hf=>?_,fun _ os o e=>?_,fun o ho=>?_,.inl ?_⟩
 ·have:=List.eq_of_mem_replicate (List.mem_of_getElem? hf);subst this;rfl
 ·simp at e
 ·simp at ho
 ·show s≠11;omega
theorem Hi{i:aq.ak}{p:Nat}(h:Ex i)(hl:0<i.len)(hp:p≤10):Ex (i.cj p):=by
 refine⟨h.falls,fun q f hf=>?_,fun e=>?_,fun o ho=>?_,h.LS⟩
 ·have hf':(i.aI.modify p fun x=>{ x with overs:=x.overs+1 })[q]?=some f:=hf;show f.overs=((i.overs++[_]).filter _).length;rw[List.filter_append,List.length_append];rw[aq.dG]at hf'
  split at hf'
  ·rename_i e;subst e
   cases e2:i.aI[p]? with
   |none=>rw[e2]at hf';cases hf'
   |some g=>
    rw[e2]at hf';have:({ g with overs:=g.overs+1 }:aq.Ka)=f:=Option.some.inj hf';subst this;have:=h.Hk p g e2;simp[this]
  ·rename_i e;rw[h.Hk q f hf'];simp[e]
 ·have:p=11:=e;omega
 ·have ho':o∈i.overs++[⟨p,0,0,[]⟩]:=ho;rcases List.mem_append.mp ho' with z|z
  ·exact h.GK o z
  ·rw[List.mem_singleton.mp z];exact hp
theorem Eb{i:aq.ak}(h:Ex i)(n:Nat):Ex { i with ended:=n }:=⟨h.falls,h.Hk,h.idle,h.GK,h.LS⟩
theorem Ey{i:aq.ak}(h:Ex i)(n:Nat):Ex (i.bK n):=⟨h.falls,h.Hk,h.idle,h.GK,h.LS⟩
theorem Gb{i:aq.ak}(h:Ex i)(h0:i.e0≠11)(h1:i.e1≠11)(e hurt:Nat):Ex (i.retire e hurt):=by
 have hs:(if e=0 then 11 else i.e0)≠11∨(if e=0 then i.e1 else 11)≠11:=by
  by_cases z:e=0<;>simp[z,h0,h1]
 unfold aq.ak.retire;by_cases hh:hurt=1
 ·simp only[hh,if_true];exact⟨h.falls,h.Hk,h.idle,h.GK,hs⟩
 ·simp only[hh,if_false];refine⟨?_,h.Hk,h.idle,h.GK,hs⟩;show(i.falls++[_]).length=i.wickets+1;rw[List.length_append,h.falls];rfl
theorem My{i:aq.ak}{p:Nat}(o:i.Ok)(h:Ex i)(hp:p≤10):Ex (i.gb p):=by
 obtain⟨x,hx⟩:=aq.ak.ir o hp;rw[aq.ak.jc hx];refine⟨h.falls,h.Hk,h.idle,h.GK,?_⟩;show(if i.e0=11 then p else i.e0)≠11∨_
 left
 split<;>omega
theorem EK{i:aq.ak}{b:Ball}(o:i.Ok)(h:Ex i)(hb:aq.ku b)(h0:i.e0≠11)(h1:i.e1≠11)(hw:i.bowler≠11):Ex (i.deliver b):=by
 obtain⟨os,x,eo,ew,hx⟩:=o.over hw;obtain⟨st,t,es⟩:∃ st t,i.stands=st++[t]:=by
  rcases aq.a8 i.stands with z|z
  ·exact absurd z o.stands
  ·exact z
 rw[aq.ak.gO eo es];have oB:(aq.b7 b x).balls=x.balls+b.fair:=aq.ak.u9 b _;refine⟨?_,fun p f hf=>?_,fun e os' o' ho=>?_,fun o' ho=>?_,?_⟩
 ·show(if b.how=0 then i.falls else _).length=if b.how=0 then i.wickets else _
  split
  ·exact h.falls
  ·rw[List.length_append,h.falls];rfl
 ·have ef:(aq.ak.b5 i b os x st t).aI=if x.balls+b.fair=i.len∧x.runs+bc b=0 then(i.aI.modify i.bowler (aq.dA b)).modify i.bowler aq.Hz else i.aI.modify i.bowler (aq.dA b):=rfl
  have one:∀ g,(i.aI.modify i.bowler (aq.dA b))[p]?=some g→∃ g0,i.aI[p]?=some g0∧g.overs=g0.overs:=by
   intro g hg;rw[aq.dG]at hg
   split at hg
   ·cases q:i.aI[p]? with
    |none=>rw[q]at hg;cases hg
    |some g0=>
     rw[q]at hg;have:aq.dA b g0=g:=Option.some.inj hg;subst this;exact⟨g0,rfl,rfl⟩
   ·exact⟨g,hg,rfl⟩
  have key:∃ g0,i.aI[p]?=some g0∧f.overs=g0.overs:=by
   rw[ef]at hf
   split at hf
   ·rw[aq.dG]at hf
    split at hf
    ·cases q:(i.aI.modify i.bowler (aq.dA b))[p]? with
     |none=>rw[q]at hf;cases hf
     |some g=>
      rw[q]at hf;have:aq.Hz g=f:=Option.some.inj hf;subst this;exact one g q
    ·exact one f hf
   ·exact one f hf
  obtain⟨g0,hg0,e⟩:=key;rw[e,h.Hk p g0 hg0,eo];show((os++[x]).filter _).length=((os++[aq.b7 b x]).filter _).length;rw[List.filter_append,List.filter_append,List.length_append,List.length_append];have eb:(aq.b7 b x).bowler=x.bowler:=rfl;simp only[List.filter_cons,List.filter_nil,eb]
  split<;>rfl
 ·have e1:(aq.ak.b5 i b os x st t).bowler=if x.balls+b.fair=i.len then 11 else i.bowler:=rfl
  rw[e1]at e;have ho':os++[aq.b7 b x]=os'++[o']:=ho;obtain⟨_,q⟩:=List.append_inj' ho' rfl;cases q
  split at e
  ·rename_i hd;rw[oB,hd];exact Nat.le_refl _
  ·exact absurd e hw
 ·have ho':o'∈os++[aq.b7 b x]:=ho;rcases List.mem_append.mp ho' with z|z
  ·exact h.GK o' (by rw[eo];exact List.mem_append_left _ z)
  ·rw[List.mem_singleton.mp z];exact h.GK x (by rw[eo];simp)
 ·show(if x.balls+b.fair=i.len then(aq.ak.b8 b i.e0 i.e1).2 else(aq.ak.b8 b i.e0 i.e1).1)≠11∨(if x.balls+b.fair=i.len then(aq.ak.b8 b i.e0 i.e1).1 else(aq.ak.b8 b i.e0 i.e1).2)≠11;have:(aq.ak.b8 b i.e0 i.e1).1≠11∨(aq.ak.b8 b i.e0 i.e1).2≠11:=by
   unfold aq.ak.b8
   repeat' split
   all_goals simp_all
  split<;>omega
theorem DD{i:aq.ak}(o:i.Ok)(h:Ex i):i.wickets≤10:=by
 rw[o.wickets,aq.ak.mL];have hlen:=o.bats;obtain⟨q,x,hq,hq0⟩:∃(q:Nat)(x:Bat),i.bats[q]?=some x∧x.how=0:=by
  rcases h.LS with z|z
  ·obtain⟨x,hx⟩:=aq.ak.ir o (p:=i.e0) (by have:=o.e0;omega);exact⟨_,x,hx,(o.s0 x hx).1⟩
  ·obtain⟨x,hx⟩:=aq.ak.ir o (p:=i.e1) (by have:=o.e1;omega);exact⟨_,x,hx,(o.s1 x hx).1⟩
 have hle:(i.bats.filter fun b=>Sh11.isOut b.how).length≤i.bats.length:=List.length_filter_le _ _;have hne:(i.bats.filter fun b=>Sh11.isOut b.how).length≠i.bats.length:=by
  intro e;rw[List.length_filter_eq_length_iff]at e;have:=e x (List.mem_of_getElem? hq);rw[hq0]at this;cases this
 omega
end N
namespace N
open Sh11 (Bat Bowl Fall Stand Ball Rules Bytes Event)
open aq (ab gI GY)
def Gr{α:Type}(l0 l:List α):Prop:=l0.length≤l.length∧l.take (l0.length-1)=l0.take (l0.length-1)
theorem Gr.refl{α:Type}(l:List α):Gr l l:=⟨Nat.le_refl _,rfl⟩
theorem Gr.app{α:Type}(l x:List α):Gr l (l++x):=⟨by rw[List.length_append];omega,by rw[List.take_append_of_le_length (by omega)]⟩
theorem Gr.last{α:Type}(f:α→α)(l:List α):Gr l (gI f l):=by
 rcases aq.a8 l with e|⟨ps,a,e⟩
 ·subst e;exact⟨Nat.le_refl _,rfl⟩
 ·subst e;rw[aq.ie];refine⟨by simp,?_⟩;have:(ps++[a]).length-1=ps.length:=by simp
  rw[this];simp
theorem Gr.back{α:Type}{ps l:List α}{a:α}(h:Gr (ps++[a]) l):(l.take (ps++[a]).length).set ((ps++[a]).length-1) a=ps++[a]:=by
 obtain⟨h1,h2⟩:=h;have e:(ps++[a]).length-1=ps.length:=by simp
 rw[e]at h2 ⊢;have h2':l.take ps.length=ps:=by rw[h2];simp
 have h3:ps.length<l.length:=by simp at h1;omega
 have e2:(ps++[a]).length=ps.length+1:=by simp
 rw[e2,List.take_succ_eq_append_getElem h3,h2'];simp
structure jg(n0 n:ak):Prop where
 side:n.side=n0.side
 len:n.len=n0.len
 overs:Gr n0.overs n.overs
 told:Gr n0.told n.told
 falls:Gr n0.falls n.falls
 stands:Gr n0.stands n.stands
theorem jg.refl(n:ak):jg n n:=⟨rfl,rfl,.refl _,.refl _,.refl _,.refl _⟩
theorem jg.ended{n0 n:ak}(h:jg n0 n)(k:Nat):jg n0 { n with ended:=k }:=⟨h.side,h.len,h.overs,h.told,h.falls,h.stands⟩
theorem jg.qO{n0 n:ak}(h:jg n0 n)(k:Nat):jg n0 (n.bK k):=⟨h.side,h.len,h.overs,h.told,h.falls,h.stands⟩
theorem Cj(n:ak)(p:Nat):jg n (n.cj p):=⟨rfl,rfl,.app _ _,.refl _,.refl _,.refl _⟩
theorem HA(n:ak)(p:Nat):jg n (n.gb p):=⟨rfl,rfl,.refl _,.refl _,.refl _,.app _ _⟩
theorem Jn(how:Nat)(l:List Fall)(f:Fall):Gr l (if how=9 then l else l++[f]):=by
 split
 ·exact .refl _
 ·exact .app _ _
theorem Hx(n:ak)(e h:Nat):jg n (n.retire e h):=⟨rfl,rfl,.refl _,.refl _,Jn _ _ _,.refl _⟩
theorem FZ(n:ak)(b:Ball):jg n (n.deliver b):=by
 have hm:∀ j:ak,(ak.aJ b j).overs=j.overs∧(ak.aJ b j).len=j.len∧(ak.aJ b j).side=j.side∧(ak.aJ b j).told=j.told∧(ak.aJ b j).stands=j.stands∧Gr j.falls (ak.aJ b j).falls:=by
  intro j;unfold ak.aJ;split
  ·exact⟨rfl,rfl,rfl,rfl,rfl,Jn _ _ _⟩
  ·split<;>exact⟨rfl,rfl,rfl,rfl,rfl,.refl _⟩
 have g1:jg n (ak.jS b (ak.aJ b (ak.bX b n))):=by
  obtain⟨h1,h2,h3,h4,h5,h6⟩:=hm (ak.bX b n);refine⟨h3,h2,?_,?_,h6,?_⟩
  ·show Gr n.overs (gI _ (ak.aJ b (ak.bX b n)).overs);rw[h1];exact Gr.last _ _
  ·show Gr n.told ((ak.aJ b (ak.bX b n)).told++_);rw[h4];exact Gr.app _ _
  ·show Gr n.stands (ak.aJ b (ak.bX b n)).stands;rw[h5];exact Gr.last _ _
 unfold ak.deliver;simp only[];split
 ·exact g1
 ·unfold ak.gh;split
  ·split<;>exact⟨g1.side,g1.len,g1.overs,g1.told,g1.falls,g1.stands⟩
  ·exact⟨g1.side,g1.len,g1.overs,g1.told,g1.falls,g1.stands⟩
noncomputable def wsum(i:aq.ak):Nat:=((bg i.overs).map fun w=>w.length+1).sum
structure so(n:Nat)(i:aq.ak):Prop where
 w:wsum i≤7*n+(if i.aH=true then 1 else 0)
 ov:i.overs.length≤n
 st:i.stands.length≤n+1
theorem so.up{n:Nat}{i:aq.ak}(h:so n i):so (n+1) i:=⟨by have:=h.w;omega,by have:=h.ov;omega,by have:=h.st;omega⟩
theorem Pm(i:aq.ak):(bg i.overs).length≤wsum i:=by
 unfold wsum
 induction bg i.overs with
 |nil=>simp
 |cons x r ih=>simp only[List.length_cons,List.map_cons,List.sum_cons];omega
theorem B5:∀ r:Fin 11,(Sh11.decimal r.val).length≤2∧(r.val<10→(Sh11.decimal r.val).length=1):=by decide
theorem Jl{b:Ball}(h:aq.ku b):b.written.length≤6+(if b.how=0 then 0 else 1):=by
 have h1:=(B5 ⟨1+b.runs,by have:=h.runs;omega⟩).1;have h2:=(B5 ⟨b.runs,by have:=h.runs;omega⟩).2 (by have:=h.runs;show b.runs<10;omega);simp only[]at h1 h2;have hby:(if b.off=1 then Sh11.ascii "b" else if b.off=2 then Sh11.ascii "lb" else[]).length≤2:=by
  split
  ·decide
  ·split<;>decide
 have a1:(Sh11.ascii "wd").length=2:=by decide
 have a2:(Sh11.ascii "nb").length=2:=by decide
 have a3:(Sh11.ascii "+").length=1:=by decide
 have a4:(Sh11.ascii ".").length=1:=by decide
 have a5:(Sh11.ascii "W").length=1:=by decide
 unfold Sh11.Ball.written;simp only[List.length_append];have tail:(if b.how=0 then([]:Bytes)else Sh11.ascii "W").length=if b.how=0 then 0 else 1:=by split<;>simp[a5]
 rw[tail];refine Nat.add_le_add_right ?_ _;split
 ·rw[List.length_append];omega
 ·split
  ·rw[List.length_append];split
   ·simp[a2]
   ·rw[List.length_append,List.length_append];omega
  ·split
   ·split
    ·omega
    ·simp
   ·rw[List.length_append];omega
theorem vS{side len owed s o n:Nat}:so n (aq.ak.opened side len owed s o):=by
 rw[aq.ak.fN];refine⟨?_,Nat.zero_le _,?_⟩
 ·unfold wsum;simp[bg]
 ·simp
theorem zy{i:aq.ak}{b:Ball}{n:Nat}(o:i.Ok)(hb:aq.ku b)(h0:i.e0≠11)(h1:i.e1≠11)(hw:i.bowler≠11)(h:so n i):so (n+1) (i.deliver b):=by
 obtain⟨os,x,eo,ew,hx⟩:=o.over hw;obtain⟨st,t,es⟩:∃ st t,i.stands=st++[t]:=by
  rcases aq.a8 i.stands with z|z
  ·exact absurd z o.stands
  ·exact z
 rw[aq.ak.gO eo es];have hov:=h.ov;have hst:=h.st;have h:=h.w;refine⟨?_,?_,?_⟩
 rotate_left
 ·show(os++[aq.b7 b x]).length≤n+1;rw[eo]at hov;simp at hov ⊢;omega
 ·show(st++[aq.gF b t]).length≤n+1+1;rw[es]at hst;simp at hst ⊢;omega
 unfold wsum at h ⊢;have e1:bg (aq.ak.b5 i b os x st t).overs=bg i.overs++[b.written]:=by
  show bg (os++[aq.b7 b x])=_;rw[eo,kS,kS,List.append_assoc];rfl
 have e2:i.aH=false:=by unfold aq.ak.aH;simp[h0,h1]
 rw[e2]at h;have e3:b.how≠0→(aq.ak.b5 i b os x st t).aH=true:=by
  intro hh;unfold aq.ak.aH;show((if x.balls+b.fair=i.len then(aq.ak.b8 b i.e0 i.e1).2 else(aq.ak.b8 b i.e0 i.e1).1)==11||(if x.balls+b.fair=i.len then(aq.ak.b8 b i.e0 i.e1).1 else(aq.ak.b8 b i.e0 i.e1).2)==11)=true;unfold aq.ak.b8;rw[if_pos hh];by_cases q:b.end_=0<;>by_cases hd:x.balls+b.fair=i.len<;>simp[q,hd]
 rw[e1,List.map_append,List.sum_append];have hl:=Jl hb;simp only[List.map_cons,List.map_nil,List.sum_cons,List.sum_nil,Nat.add_zero];simp only[Bool.false_eq_true,if_false]at h;by_cases hh:b.how=0
 ·rw[if_pos hh]at hl
  split<;>omega
 ·rw[if_neg hh]at hl;rw[if_pos (e3 hh)];omega
theorem ER{i:aq.ak}{n p:Nat}(h:so n i):so (n+1) (i.cj p):=by
 refine⟨?_,by show(i.overs++[_]).length≤n+1;have:=h.ov;simp;omega,by have:=h.st;show i.stands.length≤_;omega⟩;have h:=h.up.w;unfold wsum at h ⊢;have e1:bg (i.cj p).overs=bg i.overs:=by
  show bg (i.overs++[_])=_;rw[kS];simp
 rw[e1];exact h
theorem IJ{i:aq.ak}{n p:Nat}(o:i.Ok)(hp:p≤10)(h:so n i):so (n+1) (i.gb p):=by
 obtain⟨x,hx⟩:=aq.ak.ir o hp;rw[aq.ak.jc hx];refine⟨?_,by have:=h.ov;show i.overs.length≤_;omega,by show(i.stands++[_]).length≤_;have:=h.st;simp;omega⟩;have h:=h.w;unfold wsum at h ⊢;simp only[]
 split at h<;>split<;>omega
theorem BS{i:aq.ak}{n e hurt:Nat}(h:so n i):so (n+1) (i.retire e hurt):=by
 have e1:(i.retire e hurt).overs=i.overs:=by unfold aq.ak.retire;by_cases z:hurt=1<;>simp[z,aq.ak.lH]
 have e2:(i.retire e hurt).stands=i.stands:=by unfold aq.ak.retire;by_cases z:hurt=1<;>simp[z,aq.ak.lH]
 refine⟨?_,by rw[e1];have:=h.ov;omega,by rw[e2];have:=h.st;omega⟩;have h:=h.w;unfold wsum at h ⊢;rw[e1]
 split at h<;>split<;>omega
open aq.ab (lastOf)
theorem zF{s:Nat}:∀{l l':List aq.ak},l.map (·.side)=l'.map (·.side)→lastOf s l=lastOf s l'
 |[],[],_=>rfl
 |[],_::_,h=>by simp at h
 |_::_,[],h=>by simp at h
 |a::r,b::t,h=>by
  simp only[List.map_cons,List.cons.injEq]at h;unfold lastOf;rw[zF (s:=s) h.2,h.1]
theorem vO:∀(ps:List aq.ak)(i:aq.ak),lastOf i.side (ps++[i])=some ps.length
 |[],i=>by simp[lastOf]
 |a::r,i=>by
  show lastOf i.side (a::(r++[i]))=_;unfold lastOf;rw[vO r i];rfl
theorem Ci{s:Nat}:∀{l:List aq.ak}{k:Nat},lastOf s l=some k→∃ i,l[k]?=some i∧i.side=s
 |[],k,h=>by cases h
 |a::r,k,h=>by
  unfold lastOf at h
  cases q:lastOf s r with
  |some j=>
   rw[q]at h;have e:j+1=k:=Option.some.inj h;subst e;obtain⟨i,hi,hs⟩:=Ci q;exact⟨i,by simpa using hi,hs⟩
  |none=>
   rw[q]at h
   simp only at h
   split at h
   ·rename_i hs;cases h;exact⟨a,rfl,hs⟩
   ·cases h
def Upd(l l':List aq.ak):Prop:=∀ k i,l[k]?=some i→∃ i',l'[k]?=some i'∧i'.side=i.side∧jg (proj i) (proj i')∧(lastOf i.side l≠some k→i'=i)
theorem Upd.refl(l:List aq.ak):Upd l l:=fun _ i h=>⟨i,h,rfl,.refl _,fun _=>rfl⟩
theorem Upd.app(l:List aq.ak)(j:aq.ak):Upd l (l++[j]):=fun k i h=>⟨i,by rw[List.getElem?_append_left (List.getElem?_eq_some_iff.mp h).1];exact h,rfl,.refl _,fun _=>rfl⟩
theorem Upd.last{ps:List aq.ak}{i i':aq.ak}(hs:i'.side=i.side)(hg:jg (proj i) (proj i')):Upd (ps++[i]) (ps++[i']):=by
 intro k j h;by_cases hk:k<ps.length
 ·rw[List.getElem?_append_left hk]at h;exact⟨j,by rw[List.getElem?_append_left hk];exact h,rfl,.refl _,fun _=>rfl⟩
 ·have hk2:k=ps.length:=by
   have:=(List.getElem?_eq_some_iff.mp h).1;simp at this;omega
  subst hk2;have e:i=j:=by simpa using h
  subst e;exact⟨i',by simp,hs,hg,fun q=>absurd (vO ps i) q⟩
theorem Upd.modify{l:List aq.ak}{s k:Nat}(h:lastOf s l=some k)(f:aq.ak→aq.ak)(hs:∀ i,(f i).side=i.side)(hg:∀ i,jg (proj i) (proj (f i))):Upd l (l.modify k f):=by
 intro j i hj;by_cases e:k=j
 ·subst e;obtain⟨i2,hi2,hs2⟩:=Ci h;rw[hj]at hi2;cases hi2;exact⟨f i,by rw[aq.cu,hj];rfl,hs i,hg i,fun q=>absurd (by rw[hs2];exact h) q⟩
 ·exact⟨i,by rw[aq.bT _ _ e];exact hj,rfl,.refl _,fun _=>rfl⟩
theorem Upd.ended{l ps:List aq.ak}{i:aq.ak}(h:Upd l (ps++[i]))(hl:l.length=(ps++[i]).length)(n:Nat):Upd l (ps++[{ i with ended:=n }]):=by
 have es:l.map (·.side)=(ps++[i]).map (·.side):=by
  apply List.ext_getElem?;intro k;rw[List.getElem?_map,List.getElem?_map]
  cases q:l[k]? with
  |none=>
   have:(ps++[i])[k]?=none:=by
    rw[List.getElem?_eq_none_iff]at q ⊢;omega
   rw[this]
  |some j=>
   obtain⟨j',e,hs,_⟩:=h k j q;rw[e];simp[hs]
 intro k j hj;obtain⟨j',e,hs,hg,hu⟩:=h k j hj;by_cases hk:k<ps.length
 ·rw[List.getElem?_append_left hk]at e;exact⟨j',by rw[List.getElem?_append_left hk];exact e,hs,hg,hu⟩
 ·have hk2:k=ps.length:=by
   have:=(List.getElem?_eq_some_iff.mp e).1;simp at this;omega
  subst hk2;have e':i=j':=by simpa using e
  subst e';refine⟨{ i with ended:=n },by simp,hs,hg.ended n,fun q=>absurd ?_ q⟩;rw[zF es,←hs];exact vO ps i
end N
namespace N
open Sh11 (Bat Bowl Fall Stand Ball Rules Bytes Event)
open aq (ab gI GY)
open aq.ab (lastOf)
structure Good(n:Nat)(l0:List aq.ak)(g:ab):Prop where
 upd:Upd l0 g.played
 ex:∀ i∈g.played,Ex i
 size:∀ i∈g.played,so n i
theorem Good.ended{n:Nat}{l0 ps:List aq.ak}{i:aq.ak}{g:ab}(h:Good n l0 g)(e:g.played=ps++[i])(hl:l0.length=g.played.length∨ps=l0)(k:Nat):Good n l0 { g with played:=ps++[{ i with ended:=k }] }:=by
 refine⟨?_,?_,?_⟩
 ·rcases hl with hl|hl
  ·have hu:=h.upd;rw[e]at hu hl;exact hu.ended hl k
  ·rw[←hl];exact Upd.app _ _
 ·intro j hj;rcases List.mem_append.mp hj with z|z
  ·exact h.ex j (by rw[e];exact List.mem_append_left _ z)
  ·rw[List.mem_singleton.mp z];exact Eb (h.ex i (by rw[e];simp)) k
 ·intro j hj;rcases List.mem_append.mp hj with z|z
  ·exact h.size j (by rw[e];exact List.mem_append_left _ z)
  ·rw[List.mem_singleton.mp z];have hi:=h.size i (by rw[e];simp);exact⟨hi.w,hi.ov,hi.st⟩
theorem Good.look{n:Nat}{l0:List aq.ak}{g:ab}(h:Good n l0 g)(hl:l0.length=g.played.length∨∃ j,g.played=l0++[j]):Good n l0 g.aF∧g.aF.rules=g.rules:=by
 obtain⟨f,ef⟩:=aq.ab.MY g;rw[ef];split
 ·rename_i hc
  cases q:g.current with
  |none=>rw[q]at hc;cases hc
  |some i=>
   obtain⟨ps,e,_⟩:=aq.ab.j3 q;rw[aq.ab.aG e];refine⟨h.ended e ?_ _,rfl⟩;rcases hl with hl|⟨j,hj⟩
   ·exact .inl hl
   ·rw[e]at hj;exact .inr (List.append_inj' hj rfl).1
 ·exact⟨h,rfl⟩
theorem pk{n:Nat}{ps:List aq.ak}{i i':aq.ak}{g g':ab}(e:g.played=ps++[i])(e':g'.played=ps++[i'])(hx:∀ i∈g.played,Ex i)(hz:∀ i∈g.played,so n i)
  (hs:i'.side=i.side) (hg:jg (proj i) (proj i')) (x:Ex i') (z:so (n+1) i'):Good (n+1) g.played g':=by
 refine⟨by rw[e,e'];exact Upd.last hs hg,?_,?_⟩
 ·intro j hj;rw[e']at hj;rcases List.mem_append.mp hj with q|q
  ·exact hx j (by rw[e];exact List.mem_append_left _ q)
  ·rw[List.mem_singleton.mp q];exact x
 ·intro j hj;rw[e']at hj;rcases List.mem_append.mp hj with q|q
  ·exact (hz j (by rw[e];exact List.mem_append_left _ q)).up
  ·rw[List.mem_singleton.mp q];exact z
theorem EB{g g':ab}{e:Event}{n:Nat}(h:g.Ok)(hx:∀ i∈g.played,Ex i)(hz:∀ i∈g.played,so n i)(he:GY e)(ha:g.act e=some g'):Good (n+1) g.played g'∧g'.rules=g.rules:=by
 have same:∀ g1:ab,g1.played=g.played→Good (n+1) g.played g1:=fun g1 e1=>⟨by rw[e1];exact .refl _,by rw[e1];exact hx,by rw[e1];exact fun i hi=>(hz i hi).up⟩
 cases e with
 |open_ s o=>
  obtain⟨hs,ho,hn⟩:=he;simp only[aq.ab.act]at ha
  split at ha
  ·cases ha
  ·cases ha;unfold aq.ab.jn;simp only[];have ep:(g.eQ g.aS 0).played=g.played:=rfl;rw[ep];refine⟨(Good.look (n:=n+1) (l0:=g.played) ⟨Upd.app _ _,?_,?_⟩ (.inr ⟨_,rfl⟩)).1,(Good.look (n:=n+1) (l0:=g.played) ⟨Upd.app _ _,?_,?_⟩ (.inr ⟨_,rfl⟩)).2⟩<;>intro i hi<;>rcases List.mem_append.mp hi with z|z
   ·exact hx i z
   ·rw[List.mem_singleton.mp z];exact BA hs
   ·exact (hz i z).up
   ·rw[List.mem_singleton.mp z];exact vS
   ·exact hx i z
   ·rw[List.mem_singleton.mp z];exact BA hs
   ·exact (hz i z).up
   ·rw[List.mem_singleton.mp z];exact vS
 |bowler p=>
  simp only[aq.ab.act]at ha
  cases hc:g.current with
  |none=>rw[hc]at ha;cases ha
  |some i=>
   rw[hc]at ha;obtain⟨ps,e,_⟩:=aq.ab.j3 hc;have hi:i∈g.played:=by rw[e];simp
   simp only at ha
   split at ha
   ·cases ha;rw[aq.ab.aG e];have hl:=(h.iT i hi).len;exact⟨pk e rfl hx hz rfl (by rw[wq];exact Cj _ _) (Hi (hx i hi) (by omega) he) (ER (hz i hi)),rfl⟩
   ·cases ha
 |ball b=>
  have hb:=aq.Kj he;simp only[aq.ab.act]at ha
  cases hc:g.current with
  |none=>rw[hc]at ha;cases ha
  |some i=>
   rw[hc]at ha;obtain⟨ps,e,_⟩:=aq.ab.j3 hc;have hi:i∈g.played:=by rw[e];simp
   simp only at ha
   split at ha
   ·cases ha
   ·rename_i hn;have hw:i.bowler≠11:=fun z=>hn (.inl z)
    have hs:i.aH=false:=by
     cases q:i.aH with
     |false=>rfl
     |true=>exact absurd (.inr q) hn
    obtain⟨h0,h1⟩:=aq.ab.empty_false hs;cases ha;obtain⟨ds,dl,de⟩:=aq.ab.tU i b (h.iT i hi) hw;have g1:Good (n+1) g.played (g.cb (aq.ak.deliver b)):=by
     rw[aq.ab.aG e];exact pk e rfl hx hz ds (by rw[zL (h.iT i hi) (hx i hi) hb hw];exact FZ _ _) (EK (h.iT i hi) (hx i hi) hb h0 h1 hw) (zy (h.iT i hi) hb h0 h1 hw (hz i hi))
    refine g1.look (.inl ?_);rw[aq.ab.aG e,e];simp
 |in_ p=>
  simp only[aq.ab.act]at ha
  cases hc:g.current with
  |none=>rw[hc]at ha;cases ha
  |some i=>
   rw[hc]at ha;obtain⟨ps,e,_⟩:=aq.ab.j3 hc;have hi:i∈g.played:=by rw[e];simp
   simp only at ha
   split at ha
   ·cases ha
   ·rename_i hn;cases ha;have hp:p≤10:=he;obtain⟨x,hxp⟩:=aq.ak.ir (h.iT i hi) hp;have hm:∀ y,i.bats[p]?=some y→aq.bI y=true:=fun y hy=>by
     cases q:aq.bI y with
     |true=>rfl
     |false=>exact absurd (.inr (by rw[hy];exact q)) hn
    rw[aq.ab.aG e];refine⟨pk e rfl hx hz ?_ (by rw[BZ (h.iT i hi) hp hm];exact HA _ _) (My (h.iT i hi) (hx i hi) hp) (IJ (h.iT i hi) hp (hz i hi)),rfl⟩;rw[aq.ak.jc hxp]
 |retire en hurt=>
  simp only[aq.ab.act]at ha
  cases hc:g.current with
  |none=>rw[hc]at ha;cases ha
  |some i=>
   rw[hc]at ha;obtain⟨ps,e,_⟩:=aq.ab.j3 hc;have hi:i∈g.played:=by rw[e];simp
   simp only at ha
   split at ha
   ·cases ha
   ·rename_i hn;have hs:i.aH=false:=by
     cases q:i.aH with
     |false=>rfl
     |true=>exact absurd q hn
    obtain⟨h0,h1⟩:=aq.ab.empty_false hs;cases ha;have g1:Good (n+1) g.played (g.cb (aq.ak.retire en (if hurt=true then 1 else 0))):=by
     rw[aq.ab.aG e];refine pk e rfl hx hz ?_ (by rw[B9];exact Hx _ _ _) (Gb (hx i hi) h0 h1 _ _) (BS (hz i hi));unfold aq.ak.retire
     cases hurt<;>rfl
    refine g1.look (.inl ?_);rw[aq.ab.aG e,e];simp
 |penalty side=>
  simp only[aq.ab.act]at ha
  split at ha
  ·cases ha
  ·cases ha;unfold aq.ab.kj
   cases q:lastOf side g.played with
   |none=>exact (same (g.eQ side (g.eO side+5)) rfl).look (.inl rfl)
   |some k=>
    simp only[];refine Good.look (n:=n+1) (l0:=g.played) ⟨Upd.modify q _ (fun _=>rfl) fun i=>(jg.refl _).qO 5,?_,?_⟩ (.inl (by simp))
    ·exact aq.mem_modify hx fun i hi=>Ey (hx i (List.mem_of_getElem? hi)) 5
    ·exact aq.mem_modify (fun i hi=>(hz i hi).up) fun i hi=>⟨(hz i (List.mem_of_getElem? hi)).up.w,(hz i (List.mem_of_getElem? hi)).up.ov,(hz i (List.mem_of_getElem? hi)).up.st⟩
 |declare=>
  simp only[aq.ab.act]at ha
  cases hc:g.current with
  |none=>rw[hc]at ha;cases ha
  |some i=>
   rw[hc]at ha;obtain⟨ps,e,_⟩:=aq.ab.j3 hc;have hi:i∈g.played:=by rw[e];simp
   simp only at ha
   split at ha
   ·cases ha
   ·cases ha;rw[aq.ab.aG e];exact⟨pk e rfl hx hz rfl ((jg.refl _).ended _) (Eb (hx i hi) _) ⟨(hz i hi).up.w,(hz i hi).up.ov,(hz i hi).up.st⟩,rfl⟩
 |follow=>
  simp only[aq.ab.act]at ha
  split at ha
  ·cases ha;exact⟨same _ rfl,rfl⟩
  ·cases ha
 |draw=>
  simp only[aq.ab.act]at ha
  split at ha
  ·cases ha;unfold aq.ab.pj
   cases hc:g.current with
   |none=>exact⟨same _ rfl,rfl⟩
   |some i=>
    obtain⟨ps,e,_⟩:=aq.ab.j3 hc;have hi:i∈g.played:=by rw[e];simp
    simp only[];rw[aq.ab.aG e];exact⟨pk e rfl hx hz rfl ((jg.refl _).ended _) (Eb (hx i hi) _) ⟨(hz i hi).up.w,(hz i hi).up.ov,(hz i hi).up.st⟩,rfl⟩
  ·cases ha
noncomputable def begun(r:Rules):ab:=⟨r,[],(0,0),false,false⟩
inductive wt(r:Rules):List Event→List ab→ab→Prop
 |nil:wt r [] [] (begun r)
 |next (l:List Event) (gs:List ab) (g g':ab) (e:Event):wt r l gs g→GY e→g.act e=some g'→wt r (l++[e]) (gs++[g]) g'
structure Sound(n:Nat)(r:Rules)(g:ab):Prop where
 ok:g.Ok
 ex:∀ i∈g.played,Ex i
 size:∀ i∈g.played,so n i
 rules:g.rules=r
theorem I0{r:Rules}(h:r.ok=true):Sound 0 r (begun r):=by
 have e:(begun r).played=[]:=rfl;refine⟨⟨h,?_,?_,?_,?_,Nat.zero_le _,?_,rfl,?_⟩,?_,?_,rfl⟩
 ·rw[e];intro _ z;simp at z
 ·rw[e];intro _ z;simp at z
 ·rw[e];intro _ z;simp at z
 ·intro z;cases z
 ·intro i z;cases z
 ·intro z;cases z
 ·rw[e];intro _ z;simp at z
 ·rw[e];intro _ z;simp at z
theorem wt.sound{r:Rules}{l:List Event}{gs:List ab}{g:ab}(hr:r.ok=true)(h:wt r l gs g):Sound l.length r g∧Sh11.Comes r l g.abs∧gs.length=l.length:=by
 induction h with
 |nil=>exact⟨I0 hr,.start,rfl⟩
 |next l gs g g' e _ he ha ih=>
  obtain⟨hs,hc,hl⟩:=ih;obtain⟨d1,d2⟩:=aq.ab.L0 hs.ok he;obtain⟨s1,s2⟩:=EB hs.ok hs.ex hs.size he ha;rw[ha]at d1;refine⟨⟨d2 g' ha,s1.ex,?_,s2.trans hs.rules⟩,.next _ _ _ _ hc d1,by simp[hl]⟩;rw[List.length_append];exact s1.size
theorem wt.back{r:Rules}{l:List Event}{gs:List ab}{g g':ab}{e:Event}(h:wt r (l++[e]) (gs++[g]) g'):wt r l gs g∧GY e∧g.act e=some g':=by
 generalize q:l++[e]=k at h
 generalize q2:gs++[g]=k2 at h
 cases h with
 |nil=>simp at q
 |next l' gs' g1 _ e' hc he ha=>
  obtain⟨a,b⟩:=List.append_inj' q rfl;obtain⟨a2,b2⟩:=List.append_inj' q2 rfl;cases b;cases b2;subst a a2;exact⟨hc,he,ha⟩
end N
namespace N
open Sh11 (Bat Bowl Fall Stand Ball Rules Bytes Event)
open aq (ab gI GY g8)
noncomputable def withinP(b:Ball):Bool:=(decide (b.line≤1)&&(decide (b.out≤1)&&decide (b.end_≤1)))&&(decide (b.kind≤2)&&(decide (b.off≤2)&&decide (b.runs≤9)))
noncomputable def zN(b:Ball):Bool:=if b.off≠0∧(b.kind=1∨b.runs=0)then false else if b.line=1 then decide (b.runs=4)||(decide (b.runs=6)&&g8 b)else true
noncomputable def Dr(k:Nat):List Nat:=if k=0 then[0,1,2,3,4,5,6,7,8]else if k=1 then[0,4,5,6,7]else[0,6,7,8]
noncomputable def xx(b:Ball):Bool:=
 if(Dr b.kind).contains b.how=false then false else if b.how≠0∧b.line=1 then false else if b.how=6∨b.how=7 then true
 else if b.how≠0∧b.runs≠0 then false else decide (b.out=0)&&decide (b.end_=0)
noncomputable def jr(b:Ball):Bool:=if b.how=2∨b.how=4 then decide (b.fielder<11)else if b.how=6 then decide (b.fielder≤11)else decide (b.fielder=11)
noncomputable def HB(b:Ball):Bool:=withinP b&&(zN b&&(xx b&&jr b))
noncomputable def cP(k f r l h:Nat)(z:Bool):Bool:=zN ⟨k,f,r,l,h,0,0,0⟩&&(if(Dr k).contains h=false then false else if h≠0∧l=1 then false else if h=6∨h=7 then true else if h≠0∧r≠0 then false else z)
noncomputable def cS(k f r l h:Nat)(z:Bool):Bool:=(if k=1 then[0,4,5,6,7].contains h&&f==0 else if k=2 then[0,6,7,8].contains h else true) &&
 (decide (f=0∨1≤r)&&(decide (l=0∨(h=0∧(r=4∨(r=6∧k≠1∧f=0))))&&(decide (Sh11.atOnce h=true→r=0)&&(decide (h=6)||(decide (h=7)||z)))))
theorem Sf:∀ k,k≤2→∀ f,f≤2→∀ r,r≤9→∀ l,l≤1→∀ h,h≤8→∀ z:Bool,cP k f r l h z=cS k f r l h z:=by decide +kernel
theorem MC(b:Ball):HB b=b.ok:=by
 obtain⟨k,f,r,l,h,o,e,d⟩:=b;have P:HB ⟨k,f,r,l,h,o,e,d⟩=(withinP ⟨k,f,r,l,h,o,e,d⟩&&(cP k f r l h (decide (o=0)&&decide (e=0))&&jr ⟨k,f,r,l,h,o,e,d⟩)):=by
  unfold cP;rw[Bool.and_assoc];rfl
 have S:Ball.ok ⟨k,f,r,l,h,o,e,d⟩=(decide (k≤2∧f≤2∧r≤9∧l≤1∧h≤8∧o≤1∧e≤1∧d≤11)&&(cS k f r l h (decide (o=0)&&decide (e=0))&&(if h=2∨h=4 then decide (d≤10)else decide (h=6∨d=11)))):=by
  unfold cS Ball.ok;simp only[Bool.and_assoc,Bool.decide_or,Bool.decide_and];rfl
 have F:jr ⟨k,f,r,l,h,o,e,d⟩=(decide (d≤11)&&(if h=2∨h=4 then decide (d≤10)else decide (h=6∨d=11))):=by
  unfold jr;rw[Bool.eq_iff_iff];dsimp only;split
  ·simp;omega
  ·split<;>simp<;>omega
 rw[P,S,F];by_cases W:(k≤2∧f≤2∧r≤9∧l≤1)∧h≤8
 ·rw[Sf k W.1.1 f W.1.2.1 r W.1.2.2.1 l W.1.2.2.2 h W.2];simp only[withinP,W.1.1,W.1.2.1,W.1.2.2.1,W.1.2.2.2,W.2,Bool.decide_and,decide_true,Bool.true_and,Bool.and_true]
  cases cS k f r l h (decide (o=0)&&decide (e=0))<;>simp[Bool.and_assoc]
 ·have e1:decide (k≤2∧f≤2∧r≤9∧l≤1∧h≤8∧o≤1∧e≤1∧d≤11)=false:=decide_eq_false fun z=>W ⟨⟨z.1,z.2.1,z.2.2.1,z.2.2.2.1⟩,z.2.2.2.2.1⟩
  rw[e1,Bool.false_and,Bool.eq_false_iff];intro z;simp only[withinP,cP,Bool.and_eq_true,decide_eq_true_eq]at z;obtain⟨⟨⟨z1,-⟩,z2,z3,z4⟩,⟨-,z5⟩,-⟩:=z;refine W ⟨⟨z2,z3,z4,z1⟩,?_⟩
  split at z5
  ·cases z5
  ·rename_i q;rw[Bool.not_eq_false,List.contains_iff_mem]at q;revert q;unfold Dr;split
   ·intro q;simp at q;omega
   ·split<;>(intro q;simp at q;omega)
noncomputable def Kh(g:ab):List Int:=match g.played.getLast? with
 |none=>[-2]
 |some i=>[0,(g.played.length:Int),i.side,i.e0,i.e1,(proj i).cW,i.balls,i.runs,i.falls.length]
noncomputable def wm(g:ab)(k:Nat):List Int:=match g.played[k]? with
 |none=>[-1]
 |some i=>[0,i.side,i.runs,i.falls.length,i.balls,i.wides,i.noBalls,i.byes,i.legByes,i.qO,i.ended]
noncomputable def MO(b:Bat):List Int:=[b.place,b.runs,b.balls,b.fours,b.sixes,b.how,b.bowler,b.fielder]
noncomputable def MJ(b:Bowl):List Int:=[b.balls,b.maidens,b.runs,b.wickets,b.wides,b.noBalls]
noncomputable def zd(f:Fall):List Int:=[f.runs,f.player,f.balls]
noncomputable def xH(t:Stand):List Int:=[t.one,t.two,t.runs,t.balls]
noncomputable def zR{α:Type}(f:aq.ak→List α)(m:α→List Int)(g:ab)(k p:Nat):List Int:=match g.played[k]? with
 |none=>[-1]
 |some i=>match(f i)[p]? with
  |none=>[-1]
  |some x=>0::m x
noncomputable def o6:ab→Nat→Nat→List Int:=zR (·.bats) MO
noncomputable def lN:ab→Nat→Nat→List Int:=zR (fun i=>i.aI.map (·.d9)) MJ
noncomputable def Az:ab→Nat→Nat→List Int:=zR (·.falls) zd
noncomputable def uv:ab→Nat→Nat→List Int:=zR (·.stands) xH
noncomputable def codes(t:Bytes):List Int:=t.map fun x=>(x.toNat:Int)
noncomputable def gT(n:ak)(j:Nat)(o:Over):List Bytes:=(n.told.take (match n.overs[j+1]? with|some q=>q.first|none=>n.told.length)).drop o.first
noncomputable def BW(g:ab)(k j room:Nat):List Int:=match g.played[k]? with
 |none=>[-1]
 |some i=>match(proj i).overs[j]? with
  |none=>[-1]
  |some o=>((Sh11.joined (gT (proj i) j o)).length:Int)::(if room<(Sh11.joined (gT (proj i) j o)).length then[]else codes (Sh11.joined (gT (proj i) j o)))
noncomputable def qw(g:ab):List Int:=
 if g.bV=false then[0,0]else if g.up=true then[8,0]else match g.played.getLast? with
  |none=>[0,0]
  |some i=>if g.lead i.side=0 then[7,0]else if 0<g.lead i.side then[3+(i.side:Int),10-(i.falls.length:Int)]
   else[(if g.bZ=true then 1 else 5)+1-(i.side:Int),-(g.lead i.side)]
noncomputable def qW(g:ab):List Int:=0::qw g
open Sh11Neutral (told «ints»)
theorem sS{z:Int}(h:z<0):told (Sh11.num z)=[z]:=by
 unfold told Sh11.num;simp[h]
theorem oT(l:List Nat):told (Sh11.numbers l)=0::«ints» l:=by
 unfold told Sh11.numbers;simp
theorem Er(n:Nat):(aq.ak.opt n).getD Sh11.NOBODY=n:=by
 unfold aq.ak.opt Sh11.NOBODY;split
 ·rename_i h;simp[h]
 ·rfl
variable{g:ab}{n:Nat}{r:Rules}
theorem abs_get(g:ab)(k:Nat):g.abs.innings[k]?=(g.played[k]?).map aq.ak.abs:=by
 show(g.played.map _)[k]?=_;rw[List.getElem?_map]
theorem QJ(h:Sound n r g):told (g.abs.told .now)=Kh g:=by
 unfold Sh11.Match.told Kh;simp only[];rw[aq.ab.gJ]
 cases q:g.played.getLast? with
 |none=>exact sS (by decide)
 |some i=>
  have hi:i∈g.played:=List.mem_of_getLast? q;simp only[Option.map_some];rw[oT,B7 (h.ok.iT i hi) (h.ex i hi)];have hw:i.abs.wickets=i.falls.length:=by rw[(h.ex i hi).falls,(h.ok.iT i hi).wickets]
  have hl:g.abs.innings.length=g.played.length:=List.length_map ..;have e1:(i.abs.striker).getD Sh11.NOBODY=i.e0:=Er _;have e2:(i.abs.other).getD Sh11.NOBODY=i.e1:=Er _;have e3:(i.abs.bowler).getD Sh11.NOBODY=i.bowler:=Er _;rw[hw,hl,e1,e2,e3];rfl
theorem Dy(h:Sound n r g)(k:Nat):told (g.abs.told (.total k))=wm g k:=by
 unfold Sh11.Match.told wm;simp only[];rw[abs_get]
 cases q:g.played[k]? with
 |none=>exact sS (by decide)
 |some i=>
  have hi:i∈g.played:=List.mem_of_getElem? q;simp only[Option.map_some];have hw:i.abs.wickets=i.falls.length:=by rw[(h.ex i hi).falls,(h.ok.iT i hi).wickets]
  rw[oT,hw];rfl
theorem GR{α:Type}{A:Sh11.Ans}(f:aq.ak→List α)(m:α→List Int)(f':Sh11.Innings→List α)(m':α→List Nat)(hf:∀ i:aq.ak,f' i.abs=f i)(hm:∀ x,«ints» (m' x)=m x)(k p:Nat)
  (h0:((g.abs.innings[k]?).bind fun i=>(f' i)[p]?)=none→A=Sh11.num (-1)) (h1:∀ b,((g.abs.innings[k]?).bind fun i=>(f' i)[p]?)=some b→A=Sh11.numbers (m' b)):told A=zR f m g k p:=by
 unfold zR;rw[abs_get]at h0 h1
 cases q:g.played[k]? with
 |none=>
  rw[h0 (by rw[q];rfl)];exact sS (by decide)
 |some i=>
  rw[q]at h0 h1;simp only[Option.map_some,Option.bind_some,hf]at h0 h1;simp only[]
  cases q2:(f i)[p]? with
  |none=>rw[h0 q2];exact sS (by decide)
  |some x=>rw[h1 x q2,oT,hm]
theorem Mn(k p:Nat):told (g.abs.told (.batter k p))=o6 g k p:=GR (g:=g) (·.bats) MO (·.bats) (fun b=>[b.place,b.runs,b.balls,b.fours,b.sixes,b.how,b.bowler,b.fielder]) (fun _=>rfl) (fun _=>rfl) k p
 (fun h=>by unfold Sh11.Match.told;simp only[h]) (fun b h=>by unfold Sh11.Match.told;simp only[h])
theorem KQ(k p:Nat):told (g.abs.told (.bowling k p))=lN g k p:=GR (g:=g) (fun i:aq.ak=>i.aI.map (·.d9)) MJ (·.bowls) (fun b=>[b.balls,b.maidens,b.runs,b.wickets,b.wides,b.noBalls]) (fun _=>rfl) (fun _=>rfl) k p
 (fun h=>by unfold Sh11.Match.told;simp only[h]) (fun b h=>by unfold Sh11.Match.told;simp only[h])
theorem OU(k p:Nat):told (g.abs.told (.fall k p))=Az g k p:=GR (g:=g) (·.falls) zd (·.falls) (fun f=>[f.runs,f.player,f.balls]) (fun _=>rfl) (fun _=>rfl) k p
 (fun h=>by unfold Sh11.Match.told;simp only[h]) (fun b h=>by unfold Sh11.Match.told;simp only[h])
theorem N1(k p:Nat):told (g.abs.told (.stand k p))=uv g k p:=GR (g:=g) (·.stands) xH (·.stands) (fun t=>[t.one,t.two,t.runs,t.balls]) (fun _=>rfl) (fun _=>rfl) k p
 (fun h=>by unfold Sh11.Match.told;simp only[h]) (fun b h=>by unfold Sh11.Match.told;simp only[h])
theorem w6:∀(m:Nat)(l:List aq.Over)(j:Nat),(kD m l)[j]?=(l[j]?).map fun o=>⟨o.bowler,m+(bg (l.take j)).length,o.balls,o.runs⟩
 |m,[],j=>by simp[kD]
 |m,a::r,0=>by simp[kD,bg]
 |m,a::r,j+1=>by
  show(kD _ r)[j]?=_;rw[w6 _ r j,List.getElem?_cons_succ]
  congr 1
  funext o
  simp[bg,Nat.add_assoc]
theorem Cd:∀(l:List aq.Over)(j:Nat)(o:aq.Over),l[j]?=some o→((bg l).take ((bg (l.take (j+1))).length)).drop ((bg (l.take j)).length)=o.notes
 |[],j,o,h=>by simp at h
 |a::r,0,o,h=>by
  have e:a=o:=by simpa using h
  subst e;simp[bg]
 |a::r,j+1,o,h=>by
  have ih:=Cd r j o (by simpa using h);have e1:bg (a::r)=a.notes++bg r:=by simp[bg]
  have e2:∀ i,(bg ((a::r).take (i+1))).length=a.notes.length+(bg (r.take i)).length:=fun i=>by simp[bg]
  rw[e1,e2,e2,List.take_length_add_append,List.drop_length_add_append];exact ih
theorem JJ{i:aq.ak}{j:Nat}{x:aq.Over}(h:i.overs[j]?=some x){o:Over}(ho:(proj i).overs[j]?=some o):gT (proj i) j o=x.notes:=by
 have e:=w6 0 i.overs j;have ho':(kD 0 i.overs)[j]?=some o:=ho;rw[e,h]at ho';have eo:(⟨x.bowler,0+(bg (i.overs.take j)).length,x.balls,x.runs⟩:Over)=o:=Option.some.inj ho';have ef:o.first=(bg (i.overs.take j)).length:=by rw[←eo];exact Nat.zero_add _
 have eb:(match(proj i).overs[j+1]? with|some q=>q.first|none=>(proj i).told.length)=(bg (i.overs.take (j+1))).length:=by
  show(match(kD 0 i.overs)[j+1]? with|some q=>q.first|none=>(bg i.overs).length)=_;rw[w6]
  cases q:i.overs[j+1]? with
  |none=>
   simp only[Option.map_none];rw[List.take_of_length_le (List.getElem?_eq_none_iff.mp q)]
  |some y=>
   simp
 unfold gT;rw[eb,ef];exact Cd i.overs j x h
theorem Dp(k j room:Nat):told (g.abs.told (.over k j room))=BW g k j room:=by
 unfold Sh11.Match.told BW;simp only[];rw[abs_get]
 cases q:g.played[k]? with
 |none=>exact sS (by decide)
 |some i=>
  simp only[Option.map_some,Option.bind_some];have en:i.abs.notes[j]?=(i.overs[j]?).map (·.notes):=by
   show(i.overs.map _)[j]?=_;rw[List.getElem?_map]
  rw[en];have er:=w6 0 i.overs j
  cases q2:i.overs[j]? with
  |none=>
   have:(proj i).overs[j]?=none:=by show(kD 0 i.overs)[j]?=none;rw[er,q2];rfl
   rw[this];exact sS (by decide)
  |some x=>
   rw[q2]at er;have eo:(proj i).overs[j]?=some ⟨x.bowler,0+(bg (i.overs.take j)).length,x.balls,x.runs⟩:=er;rw[eo];simp only[Option.map_some];rw[JJ q2 eo];unfold told;simp only[];have nn:¬(Int.ofNat (Sh11.joined x.notes).length<0):=Int.not_lt.mpr (Int.natCast_nonneg (Sh11.joined x.notes).length);rw[if_neg nn]
   congr 1
   by_cases hr:(Sh11.joined x.notes).length≤room
   ·rw[if_pos hr,if_neg (by omega)];unfold «ints» codes;simp[List.map_map]
   ·rw[if_neg hr,if_pos (by omega)];rfl
theorem ux(h:Sound n r g){i:aq.ak}(hi:i∈g.played):i.side≤1:=by
 have hs:=h.ok.sides;have:i.side∈g.played.map (·.side):=List.mem_map_of_mem hi;rw[hs]at this;have:=List.mem_of_mem_take this;simp only[List.mem_cons,List.not_mem_nil,or_false]at this;rcases this with e|e|e|e
 ·omega
 ·omega
 ·split at e<;>omega
 ·split at e<;>omega
theorem Ma(h:Sound n r g):told (g.abs.told .result)=qW g:=by
 unfold Sh11.Match.told qW qw;simp only[];rw[oT]
 congr 1
 unfold Sh11.Match.result;have ed:g.abs.drawn=g.up:=rfl;rw[ed,aq.ab.Dp h.ok,aq.ab.xn,aq.ab.xn,aq.ab.gJ]
 cases hu:g.up with
 |true=>
  have:g.bV=true:=by unfold aq.ab.bV;rw[hu];rfl
  rw[this];rfl
 |false=>
  simp only[Bool.false_eq_true,if_false]
  cases hv:g.bV with
  |false=>rfl
  |true=>
   simp only[Bool.true_eq_false,if_false];have hr:=h.ok.rules;unfold Sh11.Rules.ok at hr;rw[decide_eq_true_eq]at hr;have hv':=hv;unfold aq.ab.bV at hv';rw[hu]at hv';simp only[Bool.false_eq_true,if_false]at hv'
   split at hv'
   ·cases hv'
   ·cases q:g.played.getLast? with
    |none=>
     exfalso
     have e:g.played=[]:=List.getLast?_eq_none_iff.mp q;unfold aq.ab.bZ aq.ab.fW at hv';rw[e]at hv';simp at hv';omega
    |some i=>
     have hi:i∈g.played:=List.mem_of_getLast? q;have hs:=ux h hi;have hw:i.abs.wickets=i.falls.length:=by rw[(h.ex i hi).falls,(h.ok.iT i hi).wickets]
     have hwl:=DD (h.ok.iT i hi) (h.ex i hi);rw[←(h.ex i hi).falls]at hwl;have hl:g.abs.innings.length=g.played.length:=List.length_map ..;have three:g.bZ=false→g.played.length=3∧g.lead i.side<0:=by
      intro z;rw[z]at hv';unfold aq.ab.fW at hv';simp only[Bool.false_or,Bool.and_eq_true,decide_eq_true_eq]at hv';obtain⟨h3,h4⟩:=hv';refine⟨h3,?_⟩;have e2:g.played[2]?=some i:=by
       rw[List.getLast?_eq_getElem?,h3]at q;exact q
      rw[e2]at h4
      simpa using h4
     have two:g.bZ=true→g.played.length≠3:=by
      intro z;unfold aq.ab.bZ at z;rw[decide_eq_true_eq]at z;omega
     simp only[Option.map_some];rw[hl];have hsi:i.abs.side=i.side:=rfl;rw[hsi,hw];have hlead:g.lead i.side=(g.cU i.side:Int)-(g.cU (1-i.side):Int):=rfl;have hs2:i.side=0∨i.side=1:=by omega
     by_cases h0:g.lead i.side=0
     ·have:g.cU 0=g.cU 1:=by rcases hs2 with e|e<;>rw[e]at hlead h0<;>simp at hlead<;>omega
      rw[if_pos this,if_pos h0];rfl
     ·have hne:¬g.cU 0=g.cU 1:=by
       intro z;apply h0;rcases hs2 with e|e<;>rw[e]at hlead ⊢<;>simp at hlead<;>omega
      rw[if_neg hne,if_neg h0];by_cases hp:0<g.lead i.side
      ·rw[if_pos hp];have hao:g.bZ=true:=by
        cases z:g.bZ with
        |true=>rfl
        |false=>have:=(three z).2;omega
       rw[if_neg (two hao)];have ew:i.side=if g.cU 0<g.cU 1 then 1 else 0:=by
        rcases hs2 with e|e<;>rw[e]at hlead hp ⊢<;>simp at hlead
        ·rw[if_neg (by omega)]
        ·rw[if_pos (by omega)]
       rw[if_pos ew,←ew];unfold «ints»;simp only[List.map_cons,List.map_nil]
       congr 1
       congr 1
       omega
      ·rw[if_neg hp];have ew:(if g.cU 0<g.cU 1 then 1 else 0)=1-i.side:=by
        rcases hs2 with e|e<;>rw[e]at hlead hp h0 ⊢<;>simp at hlead
        ·rw[if_pos (by omega)]
        ·rw[if_neg (by omega)]
       have edd:((if g.cU 0<g.cU 1 then g.cU 1-g.cU 0 else g.cU 0-g.cU 1:Nat):Int) = -(g.lead i.side):=by
        rcases hs2 with e|e<;>rw[e]at hlead hp h0 ⊢<;>simp at hlead
        ·rw[if_pos (by omega)];omega
        ·rw[if_neg (by omega)];omega
       rw[ew]
       cases hao:g.bZ with
       |true=>
        rw[if_neg (two hao),if_neg (by omega)];unfold «ints»;simp only[List.map_cons,List.map_nil,if_true];rw[edd]
        congr 1
        omega
       |false=>
        rw[if_pos (three hao).1];unfold «ints»;simp only[List.map_cons,List.map_nil,Bool.false_eq_true,if_false];rw[edd]
        congr 1
        omega
end N
namespace Sb
open PySem L2
noncomputable def top(i:Nat):Stmt:=PySem.Challenge.pw_scorebook_s01_answers.main.body.getD i (.Pass ⟨0,0,0,0⟩)
structure Ad where
 c:Nat→Addr
 f:Nat→Addr
 d:Nat→FuncData
 g:Nat→Addr
structure FB(K:PySem.W.Frag)(x qual:Str)(st:Stmt)(ps:List Str)(f:Addr)(fd:FuncData):Prop where
 F:PR K x qual st f fd
 b:Binds K fd ps []
noncomputable abbrev wR:Stmt:=inClass (top 15) 0
noncomputable abbrev tN:Stmt:=inClass (top 15) 1
noncomputable abbrev uc:Stmt:=inClass (top 15) 2
noncomputable abbrev nS:Stmt:=inClass (top 15) 3
noncomputable abbrev nJ:Stmt:=inClass (top 15) 4
noncomputable abbrev lU:Stmt:=inClass (top 15) 5
noncomputable abbrev nH:Stmt:=inClass (top 15) 6
noncomputable abbrev kv:Stmt:=inClass (top 15) 7
noncomputable abbrev kK:Stmt:=inClass (top 15) 8
noncomputable abbrev gf:Stmt:=inClass (top 15) 9
noncomputable abbrev AQ:Stmt:=top 16
noncomputable abbrev kC:Stmt:=top 17
noncomputable abbrev y4:Stmt:=top 18
noncomputable abbrev rB:Stmt:=top 19
noncomputable abbrev hR:Stmt:=top 20
noncomputable abbrev qx:Stmt:=top 21
noncomputable abbrev BN:Stmt:=top 24
noncomputable abbrev qK:Stmt:=top 25
noncomputable abbrev nR:Stmt:=top 26
noncomputable abbrev rD:Stmt:=inClass (top 30) 0
noncomputable abbrev mD:Stmt:=inClass (top 30) 1
noncomputable abbrev i7:Stmt:=inClass (top 30) 2
noncomputable abbrev qB:Stmt:=inClass (top 30) 3
noncomputable abbrev rV:Stmt:=inClass (top 30) 4
noncomputable abbrev rG:Stmt:=inClass (top 30) 5
noncomputable abbrev uu:Stmt:=top 31
noncomputable abbrev qL:Stmt:=inClass (top 32) 0
noncomputable abbrev lR:Stmt:=inClass (top 32) 1
noncomputable abbrev nT:Stmt:=inClass (top 32) 2
noncomputable abbrev iz:Stmt:=inClass (top 32) 3
noncomputable abbrev rR:Stmt:=top 33
noncomputable abbrev vW:Stmt:=inClass (top 34) 0
noncomputable abbrev tP:Stmt:=inClass (top 34) 1
noncomputable abbrev uO:Stmt:=inClass (top 35) 0
noncomputable abbrev oj:Stmt:=inClass (top 35) 1
noncomputable abbrev rQ:Stmt:=inClass (top 35) 2
noncomputable abbrev wH:Stmt:=inClass (top 36) 0
noncomputable abbrev tX:Stmt:=inClass (top 36) 1
noncomputable abbrev ip:Stmt:=inClass (top 36) 2
noncomputable abbrev qk:Stmt:=inClass (top 40) 0
noncomputable abbrev iV:Stmt:=inClass (top 40) 1
noncomputable abbrev lr:Stmt:=inClass (top 40) 2
noncomputable abbrev gY:Stmt:=inClass (top 40) 3
noncomputable abbrev gu:Stmt:=inClass (top 40) 4
noncomputable abbrev ik:Stmt:=inClass (top 40) 5
noncomputable abbrev dF:Stmt:=inClass (top 40) 6
noncomputable abbrev cR:Stmt:=inClass (top 40) 7
noncomputable abbrev la:Stmt:=inClass (top 40) 8
noncomputable abbrev g6:Stmt:=inClass (top 40) 9
noncomputable abbrev jN:Stmt:=inClass (top 40) 10
noncomputable abbrev fc:Stmt:=inClass (top 40) 11
noncomputable abbrev kL:Stmt:=inClass (top 40) 12
noncomputable abbrev jb:Stmt:=inClass (top 40) 13
noncomputable abbrev fE:Stmt:=inClass (top 40) 14
noncomputable abbrev jI:Stmt:=inClass (top 40) 15
noncomputable abbrev iD:Stmt:=inClass (top 40) 16
noncomputable abbrev lA:Stmt:=inClass (top 40) 17
noncomputable abbrev g9:Stmt:=inClass (top 40) 18
noncomputable abbrev iu:Stmt:=inClass (top 40) 19
noncomputable abbrev kJ:Stmt:=inClass (top 40) 20
noncomputable abbrev iq:Stmt:=inClass (top 40) 21
noncomputable abbrev mB:Stmt:=inClass (top 40) 22
noncomputable abbrev gH:Stmt:=inClass (top 40) 23
noncomputable abbrev kO:Stmt:=inClass (top 40) 24
noncomputable abbrev k7:Stmt:=inClass (top 40) 25
noncomputable abbrev Bw:Stmt:=top 41
noncomputable abbrev yH:Stmt:=top 42
noncomputable abbrev wd:Stmt:=inClass (top 57) 0
noncomputable abbrev qu:Stmt:=inClass (top 57) 1
noncomputable abbrev lO:Stmt:=inClass (top 57) 2
noncomputable abbrev qe:Stmt:=inClass (top 57) 3
noncomputable abbrev pU:Stmt:=inClass (top 57) 4
noncomputable abbrev k8:Stmt:=inClass (top 57) 5
noncomputable abbrev qd:Stmt:=inClass (top 57) 6
noncomputable abbrev eH:Stmt:=inClass (top 57) 7
noncomputable abbrev qj:Stmt:=inClass (top 57) 8
noncomputable abbrev mO:Stmt:=inClass (top 57) 9
noncomputable abbrev iX:Stmt:=inClass (top 57) 10
noncomputable abbrev jJ:Stmt:=inClass (top 57) 11
noncomputable abbrev ou:Stmt:=inClass (top 57) 12
noncomputable abbrev pY:Stmt:=inClass (top 57) 13
noncomputable abbrev rZ:Stmt:=inClass (top 57) 14
noncomputable abbrev kR:Stmt:=inClass (top 57) 15
noncomputable abbrev jL:Stmt:=inClass (top 57) 16
noncomputable abbrev tO:Stmt:=inClass (top 57) 17
noncomputable abbrev je:Stmt:=inClass (top 57) 18
noncomputable abbrev mH:Stmt:=inClass (top 57) 19
noncomputable abbrev jF:Stmt:=inClass (top 57) 20
noncomputable abbrev kz:Stmt:=inClass (top 57) 21
noncomputable abbrev nL:Stmt:=inClass (top 57) 22
noncomputable abbrev qc:Stmt:=inClass (top 57) 23
noncomputable abbrev BO:Stmt:=top 62
noncomputable abbrev ug:Stmt:=top 63
noncomputable abbrev qf:Stmt:=top 64
noncomputable abbrev rN:Stmt:=top 65
noncomputable abbrev vQ:Stmt:=top 66
noncomputable abbrev mN:Stmt:=top 67
noncomputable abbrev nI:Stmt:=top 68
noncomputable abbrev pZ:Stmt:=top 69
noncomputable abbrev qH:Stmt:=top 70
noncomputable abbrev jH:Stmt:=top 71
noncomputable abbrev qI:Stmt:=top 72
noncomputable abbrev uj:Stmt:=top 74
noncomputable abbrev wI:Stmt:=inClass (top 77) 0
noncomputable abbrev pT:Stmt:=inClass (top 77) 1
noncomputable abbrev Il:Stmt:=top 78
noncomputable abbrev qh:Stmt:=top 79
noncomputable abbrev rM:Stmt:=top 80
noncomputable abbrev wF:Stmt:=top 81
noncomputable abbrev BQ:Stmt:=top 82
noncomputable abbrev DU:Stmt:=top 83
noncomputable abbrev BJ:Stmt:=top 84
noncomputable abbrev AL:Stmt:=top 85
noncomputable abbrev wK:Stmt:=top 86
noncomputable abbrev Kw:Stmt:=top 87
noncomputable abbrev Lg:Stmt:=top 89
noncomputable abbrev Ld:Stmt:=top 90
noncomputable abbrev NH:Stmt:=top 92
noncomputable abbrev Iq:Stmt:=top 93
noncomputable abbrev E3:Stmt:=top 94
noncomputable abbrev BL:Stmt:=top 95
noncomputable abbrev Lj:Stmt:=top 96
noncomputable abbrev HU:Stmt:=top 97
noncomputable abbrev K8:Stmt:=top 98
noncomputable abbrev Ep:Stmt:=top 99
noncomputable abbrev Kk:Stmt:=top 101
noncomputable abbrev BI:Stmt:=top 107
noncomputable abbrev uk:Stmt:=top 108
structure NC(K:PySem.W.Frag)(mg:Str→Option Value)(a:Ad):Prop where
 cl:Ft K (a.c 0)
 AF:mg "Ball"=some (.ref (a.c 0))
 vg:Mk K (a.c 0) (a.f 0)
 og:aB K (a.c 0) "kind"
 Cf:aB K (a.c 0) "off"
 bz:aB K (a.c 0) "runs"
 y1:aB K (a.c 0) "line"
 hZ:aB K (a.c 0) "how"
 Ce:aB K (a.c 0) "out"
 DG:aB K (a.c 0) "end"
 d6:aB K (a.c 0) "fielder"
 we:FB K "__init__" "Ball.__init__" wR ["self","numbers"] (a.f 0) (a.d 0)
 uW:FB K "extra" "Ball.extra" tN ["self"] (a.f 1) (a.d 1)
 lX:Meth K (a.c 0) "extra" (a.f 1)
 eP:FB K "tally" "Ball.tally" uc ["self","kind"] (a.f 2) (a.d 2)
 dg:Meth K (a.c 0) "tally" (a.f 2)
 hX:FB K "all_runs" "Ball.all_runs" nS ["self"] (a.f 3) (a.d 3)
 eh:Meth K (a.c 0) "all_runs" (a.f 3)
 ke:FB K "runs_off" "Ball.runs_off" nJ ["self","off"] (a.f 4) (a.d 4)
 fI:Meth K (a.c 0) "runs_off" (a.f 4)
 iP:FB K "is_off_bat" "Ball.is_off_bat" lU ["self"] (a.f 5) (a.d 5)
 dZ:Meth K (a.c 0) "is_off_bat" (a.f 5)
 ve:FB K "bat_runs" "Ball.bat_runs" nH ["self"] (a.f 6) (a.d 6)
 kg:Meth K (a.c 0) "bat_runs" (a.f 6)
 kx:FB K "bowler_runs" "Ball.bowler_runs" kv ["self"] (a.f 7) (a.d 7)
 fh:Meth K (a.c 0) "bowler_runs" (a.f 7)
 kG:FB K "is_boundary" "Ball.is_boundary" kK ["self","runs"] (a.f 8) (a.d 8)
 fk:Meth K (a.c 0) "is_boundary" (a.f 8)
 gi:FB K "is_bowlers_wicket" "Ball.is_bowlers_wicket" gf ["self"] (a.f 9) (a.d 9)
 cM:Meth K (a.c 0) "is_bowlers_wicket" (a.f 9)
structure JM(K:PySem.W.Frag)(mg:Str→Option Value)(a:Ad):Prop where
 cl:Ft K (a.c 1)
 AF:mg "Batter"=some (.ref (a.c 1))
 vg:Mk K (a.c 1) (a.f 19)
 oX:aB K (a.c 1) "place"
 bz:aB K (a.c 1) "runs"
 bS:aB K (a.c 1) "balls"
 tR:aB K (a.c 1) "fours"
 tT:aB K (a.c 1) "sixes"
 hZ:aB K (a.c 1) "how"
 fV:aB K (a.c 1) "bowler"
 d6:aB K (a.c 1) "fielder"
 j0:FB K "__init__" "Batter.__init__" rD ["self","place","runs","balls","fours","sixes","how","bowler","fielder"] (a.f 19) (a.d 19)
 sT:FB K "numbers" "Batter.numbers" mD ["self"] (a.f 20) (a.d 20)
 jq:Meth K (a.c 1) "numbers" (a.f 20)
 iY:FB K "may_come_in" "Batter.may_come_in" i7 ["self"] (a.f 21) (a.d 21)
 dS:Meth K (a.c 1) "may_come_in" (a.f 21)
 xc:FB K "after" "Batter.after" qB ["self","ball"] (a.f 22) (a.d 22)
 lh:Meth K (a.c 1) "after" (a.f 22)
 yA:FB K "gone" "Batter.gone" rV ["self","how","bowler","fielder"] (a.f 23) (a.d 23)
 mZ:Meth K (a.c 1) "gone" (a.f 23)
 yy:FB K "come" "Batter.come" rG ["self","place"] (a.f 24) (a.d 24)
 mQ:Meth K (a.c 1) "come" (a.f 24)
structure Gj(K:PySem.W.Frag)(mg:Str→Option Value)(a:Ad):Prop where
 cl:Ft K (a.c 2)
 AF:mg "Figures"=some (.ref (a.c 2))
 vg:Mk K (a.c 2) (a.f 26)
 bS:aB K (a.c 2) "balls"
 pB:aB K (a.c 2) "maidens"
 bz:aB K (a.c 2) "runs"
 pE:aB K (a.c 2) "wickets"
 jt:aB K (a.c 2) "wides"
 dH:aB K (a.c 2) "no_balls"
 lz:FB K "__init__" "Figures.__init__" qL ["self","balls","maidens","runs","wickets","wides","no_balls"] (a.f 26) (a.d 26)
 qT:FB K "numbers" "Figures.numbers" lR ["self"] (a.f 27) (a.d 27)
 iL:Meth K (a.c 2) "numbers" (a.f 27)
 vi:FB K "after" "Figures.after" nT ["self","ball"] (a.f 28) (a.d 28)
 kb:Meth K (a.c 2) "after" (a.f 28)
 ml:FB K "with_maiden" "Figures.with_maiden" iz ["self"] (a.f 29) (a.d 29)
 fB:Meth K (a.c 2) "with_maiden" (a.f 29)
structure Nm(K:PySem.W.Frag)(mg:Str→Option Value)(a:Ad):Prop where
 cl:Ft K (a.c 3)
 AF:mg "Over"=some (.ref (a.c 3))
 vg:Mk K (a.c 3) (a.f 31)
 fV:aB K (a.c 3) "bowler"
 t8:aB K (a.c 3) "first"
 bS:aB K (a.c 3) "balls"
 bz:aB K (a.c 3) "runs"
 v8:FB K "__init__" "Over.__init__" vW ["self","bowler","first","balls","runs"] (a.f 31) (a.d 31)
 zx:FB K "after" "Over.after" tP ["self","ball"] (a.f 32) (a.d 32)
 oW:Meth K (a.c 3) "after" (a.f 32)
structure LZ(K:PySem.W.Frag)(mg:Str→Option Value)(a:Ad):Prop where
 cl:Ft K (a.c 4)
 AF:mg "Stand"=some (.ref (a.c 4))
 vg:Mk K (a.c 4) (a.f 33)
 wJ:aB K (a.c 4) "stayed"
 EG:aB K (a.c 4) "came"
 bz:aB K (a.c 4) "runs"
 bS:aB K (a.c 4) "balls"
 oQ:FB K "__init__" "Stand.__init__" uO ["self","stayed","came","runs","balls"] (a.f 33) (a.d 33)
 vm:FB K "numbers" "Stand.numbers" oj ["self"] (a.f 34) (a.d 34)
 ka:Meth K (a.c 4) "numbers" (a.f 34)
 yB:FB K "after" "Stand.after" rQ ["self","ball"] (a.f 35) (a.d 35)
 mW:Meth K (a.c 4) "after" (a.f 35)
structure Oa(K:PySem.W.Frag)(mg:Str→Option Value)(a:Ad):Prop where
 cl:Ft K (a.c 5)
 AF:mg "Sums"=some (.ref (a.c 5))
 vg:Mk K (a.c 5) (a.f 36)
 bz:aB K (a.c 5) "runs"
 bS:aB K (a.c 5) "balls"
 jt:aB K (a.c 5) "wides"
 dH:aB K (a.c 5) "no_balls"
 AX:aB K (a.c 5) "byes"
 mJ:aB K (a.c 5) "leg_byes"
 kW:aB K (a.c 5) "penalties"
 rp:FB K "__init__" "Sums.__init__" wH ["self","runs","balls","wides","no_balls","byes","leg_byes","penalties"] (a.f 36) (a.d 36)
 zB:FB K "after" "Sums.after" tX ["self","ball"] (a.f 37) (a.d 37)
 oS:Meth K (a.c 5) "after" (a.f 37)
 mi:FB K "with_penalties" "Sums.with_penalties" ip ["self","runs"] (a.f 38) (a.d 38)
 fu:Meth K (a.c 5) "with_penalties" (a.f 38)
structure Gh(K:PySem.W.Frag)(mg:Str→Option Value)(a:Ad):Prop where
 cl:Ft K (a.c 6)
 AF:mg "Innings"=some (.ref (a.c 6))
 vg:Mk K (a.c 6) (a.f 39)
 pF:aB K (a.c 6) "side"
 dO:aB K (a.c 6) "over_length"
 gm:aB K (a.c 6) "ended"
 dP:aB K (a.c 6) "ends"
 kE:aB K (a.c 6) "sums"
 cH:aB K (a.c 6) "batters"
 ij:aB K (a.c 6) "figures"
 dz:aB K (a.c 6) "overs"
 sh:aB K (a.c 6) "told"
 rn:aB K (a.c 6) "falls"
 jX:aB K (a.c 6) "stands"
 wM:FB K "__init__" "Innings.__init__" qk ["self","side","over_length","striker","other"] (a.f 39) (a.d 39)
 fU:FB K "give_place" "Innings.give_place" iV ["self","player"] (a.f 40) (a.d 40)
 c6:Meth K (a.c 6) "give_place" (a.f 40)
 lG:FB K "been_in" "Innings.been_in" lr ["self"] (a.f 41) (a.d 41)
 fP:Meth K (a.c 6) "been_in" (a.f 41)
 eJ:FB K "wickets_down" "Innings.wickets_down" gY ["self"] (a.f 42) (a.d 42)
 cy:Meth K (a.c 6) "wickets_down" (a.f 42)
 cq:FB K "has_empty_end" "Innings.has_empty_end" gu ["self"] (a.f 43) (a.d 43)
 bL:Meth K (a.c 6) "has_empty_end" (a.f 43)
 mh:FB K "may_come_in" "Innings.may_come_in" ik ["self","player"] (a.f 44) (a.d 44)
 ft:Meth K (a.c 6) "may_come_in" (a.f 44)
 gD:FB K "somebody_may_come_in" "Innings.somebody_may_come_in" dF ["self"] (a.f 45) (a.d 45)
 cC:Meth K (a.c 6) "somebody_may_come_in" (a.f 45)
 fb:FB K "somebody_has_not_been_in" "Innings.somebody_has_not_been_in" cR ["self"] (a.f 46) (a.d 46)
 cf:Meth K (a.c 6) "somebody_has_not_been_in" (a.f 46)
 rq:FB K "come_in" "Innings.come_in" la ["self","player"] (a.f 47) (a.d 47)
 iQ:Meth K (a.c 6) "come_in" (a.f 47)
 cx:FB K "over_goes_on" "Innings.over_goes_on" g6 ["self"] (a.f 48) (a.d 48)
 bQ:Meth K (a.c 6) "over_goes_on" (a.f 48)
 gq:FB K "who_bowls" "Innings.who_bowls" jN ["self"] (a.f 49) (a.d 49)
 dm:Meth K (a.c 6) "who_bowls" (a.f 49)
 jf:FB K "bowled_last_over" "Innings.bowled_last_over" fc ["self","player"] (a.f 50) (a.d 50)
 dc:Meth K (a.c 6) "bowled_last_over" (a.f 50)
 pH:FB K "overs_of" "Innings.overs_of" kL ["self","player"] (a.f 51) (a.d 51)
 hJ:Meth K (a.c 6) "overs_of" (a.f 51)
 nj:FB K "start_over" "Innings.start_over" jb ["self","player"] (a.f 52) (a.d 52)
 fS:Meth K (a.c 6) "start_over" (a.f 52)
 jD:FB K "has_whole_overs" "Innings.has_whole_overs" fE ["self","count"] (a.f 53) (a.d 53)
 dy:Meth K (a.c 6) "has_whole_overs" (a.f 53)
 oF:FB K "over_text" "Innings.over_text" jI ["self","i"] (a.f 54) (a.d 54)
 gn:Meth K (a.c 6) "over_text" (a.f 54)
 iC:FB K "change_ends" "Innings.change_ends" iD ["self"] (a.f 55) (a.d 55)
 dB:Meth K (a.c 6) "change_ends" (a.f 55)
 rf:FB K "deliver" "Innings.deliver" lA ["self","ball"] (a.f 56) (a.d 56)
 iH:Meth K (a.c 6) "deliver" (a.f 56)
 lP:FB K "move_batters" "Innings.move_batters" g9 ["self","ball"] (a.f 57) (a.d 57)
 eC:Meth K (a.c 6) "move_batters" (a.f 57)
 l9:FB K "take_wicket" "Innings.take_wicket" iu ["self","ball"] (a.f 58) (a.d 58)
 fq:Meth K (a.c 6) "take_wicket" (a.f 58)
 ki:FB K "send_off" "Innings.send_off" kJ ["self","player","how","bowler","fielder"] (a.f 59) (a.d 59)
 e7:Meth K (a.c 6) "send_off" (a.f 59)
 ma:FB K "finish_over" "Innings.finish_over" iq ["self"] (a.f 60) (a.d 60)
 fv:Meth K (a.c 6) "finish_over" (a.f 60)
 sY:FB K "retire" "Innings.retire" mB ["self","end","hurt"] (a.f 61) (a.d 61)
 jB:Meth K (a.c 6) "retire" (a.f 61)
 gr:FB K "add_penalties" "Innings.add_penalties" gH ["self","runs"] (a.f 62) (a.d 62)
 cX:Meth K (a.c 6) "add_penalties" (a.f 62)
 qv:FB K "snapshot" "Innings.snapshot" kO ["self"] (a.f 63) (a.d 63)
 gX:Meth K (a.c 6) "snapshot" (a.f 63)
 qY:FB K "restore" "Innings.restore" k7 ["self","old"] (a.f 64) (a.d 64)
 iS:Meth K (a.c 6) "restore" (a.f 64)
structure NN(K:PySem.W.Frag)(mg:Str→Option Value)(a:Ad):Prop where
 cl:Ft K (a.c 7)
 AF:mg "Game"=some (.ref (a.c 7))
 vg:Mk K (a.c 7) (a.f 67)
 jj:aB K (a.c 7) "innings_each"
 b6:aB K (a.c 7) "overs_limit"
 dO:aB K (a.c 7) "over_length"
 jd:aB K (a.c 7) "bowler_limit"
 jT:aB K (a.c 7) "follow_lead"
 bF:aB K (a.c 7) "played"
 wz:aB K (a.c 7) "owed"
 eU:aB K (a.c 7) "followed_on"
 dM:aB K (a.c 7) "time_is_up"
 B8:FB K "__init__" "Game.__init__" wd ["self","innings_each","overs_limit","over_length","bowler_limit","follow_lead"] (a.f 67) (a.d 67)
 bp:FB K "current" "Game.current" qu ["self"] (a.f 68) (a.d 68)
 bb:Meth K (a.c 7) "current" (a.f 68)
 f7:FB K "innings_of" "Game.innings_of" lO ["self","side"] (a.f 69) (a.d 69)
 df:Meth K (a.c 7) "innings_of" (a.f 69)
 qG:FB K "runs_of" "Game.runs_of" qe ["self","side"] (a.f 70) (a.d 70)
 ji:Meth K (a.c 7) "runs_of" (a.f 70)
 iZ:FB K "lead_of" "Game.lead_of" pU ["self","side"] (a.f 71) (a.d 71)
 e8:Meth K (a.c 7) "lead_of" (a.f 71)
 iO:FB K "all_opened" "Game.all_opened" k8 ["self"] (a.f 72) (a.d 72)
 dX:Meth K (a.c 7) "all_opened" (a.f 72)
 jk:FB K "is_over" "Game.is_over" qd ["self"] (a.f 73) (a.d 73)
 eZ:Meth K (a.c 7) "is_over" (a.f 73)
 iK:FB K "is_won_by_an_innings" "Game.is_won_by_an_innings" eH ["self"] (a.f 74) (a.d 74)
 c7:Meth K (a.c 7) "is_won_by_an_innings" (a.f 74)
 wY:FB K "outcome" "Game.outcome" qj ["self"] (a.f 75) (a.d 75)
 lM:Meth K (a.c 7) "outcome" (a.f 75)
 sU:FB K "next_side" "Game.next_side" mO ["self"] (a.f 76) (a.d 76)
 jy:Meth K (a.c 7) "next_side" (a.f 76)
 nB:FB K "start_innings" "Game.start_innings" iX ["self","striker","other"] (a.f 77) (a.d 77)
 fM:Meth K (a.c 7) "start_innings" (a.f 77)
 eu:FB K "look_for_end" "Game.look_for_end" jJ ["self"] (a.f 78) (a.d 78)
 cE:Meth K (a.c 7) "look_for_end" (a.f 78)
 vd:FB K "may_bowl" "Game.may_bowl" ou ["self","player"] (a.f 79) (a.d 79)
 j2:Meth K (a.c 7) "may_bowl" (a.f 79)
 wD:FB K "deliver" "Game.deliver" pY ["self","ball"] (a.f 80) (a.d 80)
 lb:Meth K (a.c 7) "deliver" (a.f 80)
 yu:FB K "retire" "Game.retire" rZ ["self","end","hurt"] (a.f 81) (a.d 81)
 mV:Meth K (a.c 7) "retire" (a.f 81)
 qg:FB K "add_penalty" "Game.add_penalty" kR ["self","side"] (a.f 82) (a.d 82)
 hC:Meth K (a.c 7) "add_penalty" (a.f 82)
 jK:FB K "way_to_close" "Game.way_to_close" jL ["self"] (a.f 83) (a.d 83)
 ez:Meth K (a.c 7) "way_to_close" (a.f 83)
 zr:FB K "close" "Game.close" tO ["self"] (a.f 84) (a.d 84)
 pd:Meth K (a.c 7) "close" (a.f 84)
 nh:FB K "may_follow_on" "Game.may_follow_on" je ["self"] (a.f 85) (a.d 85)
 fL:Meth K (a.c 7) "may_follow_on" (a.f 85)
 sM:FB K "follow_on" "Game.follow_on" mH ["self"] (a.f 86) (a.d 86)
 jx:Meth K (a.c 7) "follow_on" (a.f 86)
 oH:FB K "may_be_drawn" "Game.may_be_drawn" jF ["self"] (a.f 87) (a.d 87)
 gp:Meth K (a.c 7) "may_be_drawn" (a.f 87)
 pJ:FB K "end_by_time" "Game.end_by_time" kz ["self"] (a.f 88) (a.d 88)
 gS:Meth K (a.c 7) "end_by_time" (a.f 88)
 vk:FB K "snapshot" "Game.snapshot" nL ["self"] (a.f 89) (a.d 89)
 j9:Meth K (a.c 7) "snapshot" (a.f 89)
 xu:FB K "restore" "Game.restore" qc ["self","old"] (a.f 90) (a.d 90)
 k9:Meth K (a.c 7) "restore" (a.f 90)
structure Nw(K:PySem.W.Frag)(mg:Str→Option Value)(a:Ad):Prop where
 cl:Ft K (a.c 8)
 AF:mg "Book"=some (.ref (a.c 8))
 vg:Mk K (a.c 8) (a.f 103)
 i3:aB K (a.c 8) "game"
 wL:aB K (a.c 8) "kept"
 BY:FB K "__init__" "Book.__init__" wI ["self"] (a.f 103) (a.d 103)
 xo:FB K "is_full" "Book.is_full" pT ["self"] (a.f 104) (a.d 104)
 lC:Meth K (a.c 8) "is_full" (a.f 104)
structure Ro(K:PySem.W.Frag)(mg:Str→Option Value)(a:Ad):Prop where
 c8:mg "len"=none
 NV:mg "sum"=none
 Oc:mg "any"=none
 Og:mg "ord"=none
 pV:mg "list"=none
 LD:mg "str"=none
 Dv:mg "range"=none
 AM:FB K "is_ball" "is_ball" AQ ["ball"] (a.f 10) (a.d 10)
 xE:mg "is_ball"=some (.ref (a.f 10))
 kH:FB K "is_within_bounds" "is_within_bounds" kC ["ball"] (a.f 11) (a.d 11)
 gZ:mg "is_within_bounds"=some (.ref (a.f 11))
 za:FB K "runs_fit" "runs_fit" y4 ["ball"] (a.f 12) (a.d 12)
 uw:mg "runs_fit"=some (.ref (a.f 12))
 rS:FB K "wicket_fits" "wicket_fits" rB ["ball"] (a.f 13) (a.d 13)
 mP:mg "wicket_fits"=some (.ref (a.f 13))
 hG:FB K "is_out_while_running" "is_out_while_running" hR ["ball"] (a.f 14) (a.d 14)
 eT:mg "is_out_while_running"=some (.ref (a.f 14))
 qA:FB K "fielder_fits" "fielder_fits" qx ["ball"] (a.f 15) (a.d 15)
 lJ:mg "fielder_fits"=some (.ref (a.f 15))
 AO:FB K "written" "written" BN ["ball"] (a.f 16) (a.d 16)
 xM:mg "written"=some (.ref (a.f 16))
 p9:FB K "written_runs" "written_runs" qK ["ball"] (a.f 17) (a.d 17)
 lY:mg "written_runs"=some (.ref (a.f 17))
 hW:FB K "runs_and_sign" "runs_and_sign" nR ["ball"] (a.f 18) (a.d 18)
 ia:mg "runs_and_sign"=some (.ref (a.f 18))
 t7:FB K "new_batter" "new_batter" uu [] (a.f 25) (a.d 25)
 oP:mg "new_batter"=some (.ref (a.f 25))
 rW:FB K "new_figures" "new_figures" rR [] (a.f 30) (a.d 30)
 mX:mg "new_figures"=some (.ref (a.f 30))
 jv:FB K "tail_of" "tail_of" Bw ["rows"] (a.f 65) (a.d 65)
 my:mg "tail_of"=some (.ref (a.f 65))
 g4:FB K "cut_back" "cut_back" yH ["rows","tail"] (a.f 66) (a.d 66)
 kQ:mg "cut_back"=some (.ref (a.f 66))
 cz:FB K "done_if" "done_if" BO ["allowed"] (a.f 91) (a.d 91)
 fJ:mg "done_if"=some (.ref (a.f 91))
 uN:FB K "begin_rule" "begin_rule" ug ["numbers"] (a.f 92) (a.d 92)
 pf:mg "begin_rule"=some (.ref (a.f 92))
 ql:FB K "opening_rule" "opening_rule" qf ["game","numbers"] (a.f 93) (a.d 93)
 pS:mg "opening_rule"=some (.ref (a.f 93))
 rP:FB K "bowler_rule" "bowler_rule" rN ["game","numbers"] (a.f 94) (a.d 94)
 rL:mg "bowler_rule"=some (.ref (a.f 94))
 wN:FB K "ball_rule" "ball_rule" vQ ["game","numbers"] (a.f 95) (a.d 95)
 wV:mg "ball_rule"=some (.ref (a.f 95))
 mz:FB K "coming_in_rule" "coming_in_rule" mN ["game","numbers"] (a.f 96) (a.d 96)
 mF:mg "coming_in_rule"=some (.ref (a.f 96))
 nY:FB K "retiring_rule" "retiring_rule" nI ["game","numbers"] (a.f 97) (a.d 97)
 oe:mg "retiring_rule"=some (.ref (a.f 97))
 qy:FB K "penalty_rule" "penalty_rule" pZ ["game","numbers"] (a.f 98) (a.d 98)
 pR:mg "penalty_rule"=some (.ref (a.f 98))
 pK:FB K "closing_rule" "closing_rule" qH ["game","numbers"] (a.f 99) (a.d 99)
 pX:mg "closing_rule"=some (.ref (a.f 99))
 jG:FB K "following_on_rule" "following_on_rule" jH ["game","numbers"] (a.f 100) (a.d 100)
 jE:mg "following_on_rule"=some (.ref (a.f 100))
 pP:FB K "drawing_rule" "drawing_rule" qI ["game","numbers"] (a.f 101) (a.d 101)
 qD:mg "drawing_rule"=some (.ref (a.f 101))
 tZ:FB K "verdict_on" "verdict_on" uj ["game","number","numbers"] (a.f 102) (a.d 102)
 o9:mg "verdict_on"=some (.ref (a.f 102))
 Iy:FB K "begin" "begin" Il ["book","numbers"] (a.f 105) (a.d 105)
 Dt:mg "begin"=some (.ref (a.f 105))
 qm:FB K "open_innings" "open_innings" qh ["game","numbers"] (a.f 106) (a.d 106)
 qo:mg "open_innings"=some (.ref (a.f 106))
 rY:FB K "tell_bowler" "tell_bowler" rM ["game","numbers"] (a.f 107) (a.d 107)
 rA:mg "tell_bowler"=some (.ref (a.f 107))
 wW:FB K "tell_ball" "tell_ball" wF ["game","numbers"] (a.f 108) (a.d 108)
 wb:mg "tell_ball"=some (.ref (a.f 108))
 AW:FB K "come_in" "come_in" BQ ["game","numbers"] (a.f 109) (a.d 109)
 Bz:mg "come_in"=some (.ref (a.f 109))
 DZ:FB K "retire" "retire" DU ["game","numbers"] (a.f 110) (a.d 110)
 EL:mg "retire"=some (.ref (a.f 110))
 A8:FB K "penalty" "penalty" BJ ["game","numbers"] (a.f 111) (a.d 111)
 BP:mg "penalty"=some (.ref (a.f 111))
 AZ:FB K "declare" "declare" AL ["game","numbers"] (a.f 112) (a.d 112)
 Bi:mg "declare"=some (.ref (a.f 112))
 wu:FB K "follow_on" "follow_on" wK ["game","numbers"] (a.f 113) (a.d 113)
 wQ:mg "follow_on"=some (.ref (a.f 113))
 La:FB K "draw" "draw" Kw ["game","numbers"] (a.f 114) (a.d 114)
 KW:mg "draw"=some (.ref (a.f 114))
 Lo:FB K "tell" "tell" Lg ["book","number","numbers"] (a.f 115) (a.d 115)
 HM:mg "tell"=some (.ref (a.f 115))
 Le:FB K "undo" "undo" Ld ["book"] (a.f 116) (a.d 116)
 G6:mg "undo"=some (.ref (a.f 116))
 Nh:FB K "now" "now" NH ["game","numbers"] (a.f 117) (a.d 117)
 NO:mg "now"=some (.ref (a.f 117))
 G7:FB K "total" "total" Iq ["game","numbers"] (a.f 118) (a.d 118)
 GG:mg "total"=some (.ref (a.f 118))
 EV:FB K "batter" "batter" E3 ["game","numbers"] (a.f 119) (a.d 119)
 D9:mg "batter"=some (.ref (a.f 119))
 BC:FB K "bowling" "bowling" BL ["game","numbers"] (a.f 120) (a.d 120)
 BG:mg "bowling"=some (.ref (a.f 120))
 JY:FB K "fall" "fall" Lj ["game","numbers"] (a.f 121) (a.d 121)
 Lc:mg "fall"=some (.ref (a.f 121))
 Hq:FB K "stand" "stand" HU ["game","numbers"] (a.f 122) (a.d 122)
 Iw:mg "stand"=some (.ref (a.f 122))
 KJ:FB K "over" "over" K8 ["game","numbers"] (a.f 123) (a.d 123)
 KS:mg "over"=some (.ref (a.f 123))
 Fc:FB K "result" "result" Ep ["game","numbers"] (a.f 124) (a.d 124)
 EO:mg "result"=some (.ref (a.f 124))
 Ln:FB K "read" "read" Kk ["game","place","numbers"] (a.f 125) (a.d 125)
 HP:mg "read"=some (.ref (a.f 125))
 GB:FB K "answers" "answers" BI ["calls"] (a.f 126) (a.d 126)
 xN:mg "answers"=some (.ref (a.f 126))
 uA:FB K "answer_one" "answer_one" uk ["book","number","numbers"] (a.f 127) (a.d 127)
 ph:mg "answer_one"=some (.ref (a.f 127))
 zg:∃ t,mg "FAIR"=some (.int 0 t)
 xi:∃ t,mg "WIDE"=some (.int 1 t)
 pz:∃ t,mg "NO_BALL"=some (.int 2 t)
 sy:∃ t,mg "OFF_BAT"=some (.int 0 t)
 K3:∃ t,mg "BYES"=some (.int 1 t)
 uJ:∃ t,mg "LEG_BYES"=some (.int 2 t)
 ig:∃ t,mg "NOT_OUT"=some (.int 0 t)
 En:∃ t,mg "CAUGHT"=some (.int 2 t)
 Bq:∃ t,mg "STUMPED"=some (.int 4 t)
 uB:∃ t,mg "HIT_WICKET"=some (.int 5 t)
 xP:∃ t,mg "RUN_OUT"=some (.int 6 t)
 ub:∃ t,mg "IN_THE_WAY"=some (.int 7 t)
 dQ:∃ t,mg "NOBODY"=some (.int 11 t)
 nE:∃ t,mg "WENT_HURT"=some (.int 9 t)
 yG:∃ t,mg "WENT_OUT"=some (.int 10 t)
 gz:∃ t,mg "PLAYERS"=some (.int 11 t)
 pq:∃ t,mg "GOES_ON"=some (.int 0 t)
 xK:∃ t,mg "ALL_OUT"=some (.int 1 t)
 Ei:∃ t,mg "CLOSED"=some (.int 2 t)
 pG:∃ t,mg "OVERS_BOWLED"=some (.int 3 t)
 nQ:∃ t,mg "TARGET_PASSED"=some (.int 4 t)
 By:∃ t,mg "TIME_UP"=some (.int 5 t)
 xf:∃ t,mg "UNDECIDED"=some (.int 0 t)
 rX:∃ t,mg "WON_BY_RUNS"=some (.int 1 t)
 mw:∃ t,mg "WON_BY_WICKETS"=some (.int 3 t)
 jP:∃ t,mg "WON_BY_AN_INNINGS"=some (.int 5 t)
 Bs:∃ t,mg "AS_MANY"=some (.int 7 t)
 qt:∃ t,mg "NO_TIME_LEFT"=some (.int 8 t)
 lB:∃ t,mg "PENALTY_RUNS"=some (.int 5 t)
 Bu:∃ t,mg "WICKETS"=some (.int 10 t)
 kB:∃ t,mg "DONE"=some (.int 0 t)
 eN:∃ t,mg "WRONG"=some (.int (-1) t)
 px:∃ t,mg "REFUSED"=some (.int (-2) t)
 wO:∃ t,mg "MOST_KEPT"=some (.int 32768 t)
 Hs:∃ t,mg "BEGIN"=some (.int 0 t)
 HD:∃ t,mg "UNDO"=some (.int 10 t)
 uF:∃ t,mg "FIRST_READ"=some (.int 11 t)
 y2:mg "WAYS_OUT"=some (.ref (a.g 0))
 wa:mg "OFF_SIGNS"=some (.ref (a.g 1))
 HI:mg "RULES"=some (.ref (a.g 2))
 DY:mg "THINGS"=some (.ref (a.g 3))
 HN:mg "READS"=some (.ref (a.g 4))
 G0:mg "SIZES"=some (.ref (a.g 5))
 yM:∀ H,tK K H (a.g 0) [.ref (a.g 10),.ref (a.g 11),.ref (a.g 12)]
 uz:∀ H,tK K H (a.g 10) [.int 0,.int 1,.int 2,.int 3,.int 4,.int 5,.int 6,.int 7,.int 8]
 tQ:∀ H,tK K H (a.g 11) [.int 0,.int 4,.int 5,.int 6,.int 7]
 uQ:∀ H,tK K H (a.g 12) [.int 0,.int 6,.int 7,.int 8]
 xr:∀ H,tK K H (a.g 1) [.str "",.str "b",.str "lb"]
 kZ:∀ H,tK K H (a.g 2) [.ref (a.f 93),.ref (a.f 94),.ref (a.f 95),.ref (a.f 96),.ref (a.f 97),.ref (a.f 98),.ref (a.f 99),.ref (a.f 100),.ref (a.f 101)]
 i8:∀ H,tK K H (a.g 3) [.ref (a.f 106),.ref (a.f 107),.ref (a.f 108),.ref (a.f 109),.ref (a.f 110),.ref (a.f 111),.ref (a.f 112),.ref (a.f 113),.ref (a.f 114)]
 mS:∀ H,tK K H (a.g 4) [.ref (a.f 117),.ref (a.f 118),.ref (a.f 119),.ref (a.f 120),.ref (a.f 121),.ref (a.f 122),.ref (a.f 123),.ref (a.f 124)]
 Hm:∀ H,tK K H (a.g 5) [.int 5,.int 2,.int 1,.int 8,.int 1,.int 2,.int 1,.int 0,.int 0,.int 0,.int 0,.int 0,.int 1,.int 2,.int 2,.int 2,.int 2,.int 3,.int 0]
structure Txt(K:PySem.W.Frag)(mg:Str→Option Value)(a:Ad):Prop where
 Ball:NC K mg a
 aE:JM K mg a
 aR:Gj K mg a
 Over:Nm K mg a
 Stand:LZ K mg a
 bB:Oa K mg a
 Innings:Gh K mg a
 ab:NN K mg a
 ey:Nw K mg a
 fn:Ro K mg a
noncomputable def fG(x:Sh11.Ball):List (Str×V):=[("kind",.int x.kind),("off",.int x.off),("runs",.int x.runs),("line",.int x.line),("how",.int x.how),("out",.int x.out),("end",.int x.end_),("fielder",.int x.fielder)]
theorem fZ{x:Sh11.Ball}:(fG x).lookup ("kind":Str)=some (.int x.kind):=by kernel_rfl
theorem qb{x:Sh11.Ball}:(fG x).lookup ("off":Str)=some (.int x.off):=by kernel_rfl
theorem cV{x:Sh11.Ball}:(fG x).lookup ("runs":Str)=some (.int x.runs):=by kernel_rfl
theorem qX{x:Sh11.Ball}:(fG x).lookup ("line":Str)=some (.int x.line):=by kernel_rfl
theorem cT{x:Sh11.Ball}:(fG x).lookup ("how":Str)=some (.int x.how):=by kernel_rfl
theorem pL{x:Sh11.Ball}:(fG x).lookup ("out":Str)=some (.int x.out):=by kernel_rfl
theorem uR{x:Sh11.Ball}:(fG x).lookup ("end":Str)=some (.int x.end_):=by kernel_rfl
theorem i6{x:Sh11.Ball}:(fG x).lookup ("fielder":Str)=some (.int x.fielder):=by kernel_rfl
theorem vh{x:Sh11.Ball}:(fG x).lookup ("extra":Str)=none:=by kernel_rfl
theorem dt{x:Sh11.Ball}:(fG x).lookup ("tally":Str)=none:=by kernel_rfl
theorem g7{x:Sh11.Ball}:(fG x).lookup ("all_runs":Str)=none:=by kernel_rfl
theorem ko{x:Sh11.Ball}:(fG x).lookup ("runs_off":Str)=none:=by kernel_rfl
theorem ja{x:Sh11.Ball}:(fG x).lookup ("is_off_bat":Str)=none:=by kernel_rfl
theorem yV{x:Sh11.Ball}:(fG x).lookup ("bat_runs":Str)=none:=by kernel_rfl
theorem l8{x:Sh11.Ball}:(fG x).lookup ("bowler_runs":Str)=none:=by kernel_rfl
theorem md{x:Sh11.Ball}:(fG x).lookup ("is_boundary":Str)=none:=by kernel_rfl
theorem iN{x:Sh11.Ball}:(fG x).lookup ("is_bowlers_wicket":Str)=none:=by kernel_rfl
noncomputable def dC(x:Sh11.Bat):List (Str×V):=[("place",.int x.place),("runs",.int x.runs),("balls",.int x.balls),("fours",.int x.fours),("sixes",.int x.sixes),("how",.int x.how),("bowler",.int x.bowler),("fielder",.int x.fielder)]
theorem gC{x:Sh11.Bat}:(dC x).lookup ("place":Str)=some (.int x.place):=by kernel_rfl
theorem mR{x:Sh11.Bat}:(dC x).lookup ("runs":Str)=some (.int x.runs):=by kernel_rfl
theorem lV{x:Sh11.Bat}:(dC x).lookup ("balls":Str)=some (.int x.balls):=by kernel_rfl
theorem lF{x:Sh11.Bat}:(dC x).lookup ("fours":Str)=some (.int x.fours):=by kernel_rfl
theorem lI{x:Sh11.Bat}:(dC x).lookup ("sixes":Str)=some (.int x.sixes):=by kernel_rfl
theorem uL{x:Sh11.Bat}:(dC x).lookup ("how":Str)=some (.int x.how):=by kernel_rfl
theorem vn{x:Sh11.Bat}:(dC x).lookup ("bowler":Str)=some (.int x.bowler):=by kernel_rfl
theorem sQ{x:Sh11.Bat}:(dC x).lookup ("fielder":Str)=some (.int x.fielder):=by kernel_rfl
theorem xV{x:Sh11.Bat}:(dC x).lookup ("numbers":Str)=none:=by kernel_rfl
theorem kU{x:Sh11.Bat}:(dC x).lookup ("may_come_in":Str)=none:=by kernel_rfl
theorem zm{x:Sh11.Bat}:(dC x).lookup ("after":Str)=none:=by kernel_rfl
theorem BB{x:Sh11.Bat}:(dC x).lookup ("gone":Str)=none:=by kernel_rfl
theorem sH{x:Sh11.Bat}:(dC x).lookup ("come":Str)=none:=by kernel_rfl
noncomputable def dY(x:Sh11.Bowl):List (Str×V):=[("balls",.int x.balls),("maidens",.int x.maidens),("runs",.int x.runs),("wickets",.int x.wickets),("wides",.int x.wides),("no_balls",.int x.noBalls)]
theorem nN{x:Sh11.Bowl}:(dY x).lookup ("balls":Str)=some (.int x.balls):=by kernel_rfl
theorem lT{x:Sh11.Bowl}:(dY x).lookup ("maidens":Str)=some (.int x.maidens):=by kernel_rfl
theorem qE{x:Sh11.Bowl}:(dY x).lookup ("runs":Str)=some (.int x.runs):=by kernel_rfl
theorem lu{x:Sh11.Bowl}:(dY x).lookup ("wickets":Str)=some (.int x.wickets):=by kernel_rfl
theorem nX{x:Sh11.Bowl}:(dY x).lookup ("wides":Str)=some (.int x.wides):=by kernel_rfl
theorem kr{x:Sh11.Bowl}:(dY x).lookup ("no_balls":Str)=some (.int x.noBalls):=by kernel_rfl
theorem wZ{x:Sh11.Bowl}:(dY x).lookup ("numbers":Str)=none:=by kernel_rfl
theorem yO{x:Sh11.Bowl}:(dY x).lookup ("after":Str)=none:=by kernel_rfl
theorem rO{x:Sh11.Bowl}:(dY x).lookup ("with_maiden":Str)=none:=by kernel_rfl
noncomputable def rH(x:N.Over):List (Str×V):=[("bowler",.int x.bowler),("first",.int x.first),("balls",.int x.balls),("runs",.int x.runs)]
theorem jZ{x:N.Over}:(rH x).lookup ("bowler":Str)=some (.int x.bowler):=by kernel_rfl
theorem oZ{x:N.Over}:(rH x).lookup ("first":Str)=some (.int x.first):=by kernel_rfl
theorem zZ{x:N.Over}:(rH x).lookup ("balls":Str)=some (.int x.balls):=by kernel_rfl
theorem BU{x:N.Over}:(rH x).lookup ("runs":Str)=some (.int x.runs):=by kernel_rfl
theorem CJ{x:N.Over}:(rH x).lookup ("after":Str)=none:=by kernel_rfl
noncomputable def fK(x:Sh11.Stand):List (Str×V):=[("stayed",.int x.one),("came",.int x.two),("runs",.int x.runs),("balls",.int x.balls)]
theorem w8{x:Sh11.Stand}:(fK x).lookup ("stayed":Str)=some (.int x.one):=by kernel_rfl
theorem zO{x:Sh11.Stand}:(fK x).lookup ("came":Str)=some (.int x.two):=by kernel_rfl
theorem zP{x:Sh11.Stand}:(fK x).lookup ("runs":Str)=some (.int x.runs):=by kernel_rfl
theorem yp{x:Sh11.Stand}:(fK x).lookup ("balls":Str)=some (.int x.balls):=by kernel_rfl
theorem y6{x:Sh11.Stand}:(fK x).lookup ("numbers":Str)=none:=by kernel_rfl
theorem Bx{x:Sh11.Stand}:(fK x).lookup ("after":Str)=none:=by kernel_rfl
noncomputable def iy(x:N.bB):List (Str×V):=[("runs",.int x.runs),("balls",.int x.balls),("wides",.int x.wides),("no_balls",.int x.noBalls),("byes",.int x.byes),("leg_byes",.int x.legByes),("penalties",.int x.qO)]
theorem kY{x:N.bB}:(iy x).lookup ("runs":Str)=some (.int x.runs):=by kernel_rfl
theorem lD{x:N.bB}:(iy x).lookup ("balls":Str)=some (.int x.balls):=by kernel_rfl
theorem um{x:N.bB}:(iy x).lookup ("wides":Str)=some (.int x.wides):=by kernel_rfl
theorem nO{x:N.bB}:(iy x).lookup ("no_balls":Str)=some (.int x.noBalls):=by kernel_rfl
theorem xm{x:N.bB}:(iy x).lookup ("byes":Str)=some (.int x.byes):=by kernel_rfl
theorem oh{x:N.bB}:(iy x).lookup ("leg_byes":Str)=some (.int x.legByes):=by kernel_rfl
theorem mK{x:N.bB}:(iy x).lookup ("penalties":Str)=some (.int x.qO):=by kernel_rfl
theorem C5{x:N.bB}:(iy x).lookup ("after":Str)=none:=by kernel_rfl
theorem sk{x:N.bB}:(iy x).lookup ("with_penalties":Str)=none:=by kernel_rfl
section
variable{X:Cx}{pos p:Pos}{x:Str}{e:Expr}{es:List Expr}{t:TA}
theorem aN{i:Int}(hg:Gl X x)(hm:∃ t,X.mg x=some (.int i t))(hd:(x==("__debug__":Str))=false:=by decide):PE X (.Name x pos) (tC (.int i)):=by
 obtain⟨t,hm⟩:=hm;exact LC hg hm ⟨t,rfl⟩ hd
theorem Ge{f:Addr}(hg:Gl X x)(hm:X.mg x=some (.ref f))(hd:(x==("__debug__":Str))=false:=by decide):PE X (.Name x pos) (tC (.ref f)):=LC hg hm rfl hd
def QE(X:Cx)(i:Nat)(t:TA):TE:=fun σ H Q=>∃ f,σ[i]?=some (some (.ref f))∧PySem.W.keepIn X.K (.ref f)=true∧t σ H fun vs H1=>
 ∃ k fd ps sp,aZ X.prog X.w X.K X.mg X.base cG k f fd ps sp∧mE k X.A∧Binds X.K fd ps []∧sp vs H1 Q E0
theorem E8(i:Nat)(ha:PA X (e::es) t)(hN:X.N[i]?=some x:=by rfl)(hv:QU X.env.scope x:=by first|exact Or.inl rfl|exact Or.inr (Or.inl rfl)|exact Or.inr (Or.inr rfl))(hd:(x==("__debug__":Str))=false:=by decide)
  (hcd:(x==("__classdict__":Str))=false:=by decide) (he:starEach (e::es) X.env=(false,eval e X.env)::starEach es X.env:=by rfl) (hpl:(backTo pos (starEach es X.env)).any (·.1)=false:=by rfl) :
  PE X (.Call (.Name x p) (e::es) [] pos) (QE X i t):=by
 intro pins s σ H Q I h;obtain⟨f,hf,hk,h⟩:=h;have h1:=Nb (pos:=p) hN hv hd hcd pins s σ H (fun v H1=>v=.ref f∧H1=H) I ⟨.ref f,hf,rfl,rfl⟩;refine wpAny_Call_Name_kw (gM h1 fun u s1 ⟨v,H1,I1,r1,e1,e2⟩=>?_);subst e1 e2;obtain rfl:u=Value.ref f:=r1;refine PySem.W.callWith_K (h₀:=X.base) I1.ok.mod.QQ hk (gM (ha pos pins s1 σ H1 _ I1 h) fun us s2 ⟨vs,H2,I2,r,q⟩=>⟨I2.IH,?_⟩) he hpl;obtain⟨k,fd,ps,sp,F,hr,hb,q⟩:=q;exact DM (dvs:=[]) F hr hb .nil au I2 r (by rw[List.append_nil];exact q)
end
noncomputable def noStar:Expr→Bool
 |.Starred _ _=>false
 |_=>true
theorem sE{e:Expr}{es:List Expr}{env:Env}(h:noStar e=true):starEach (e::es) env=(false,eval e env)::starEach es env:=by
 cases e<;>first|rfl|cases h
theorem An{pos:Pos}{env:Env}:∀{es:List Expr},es.all noStar=true→(backTo pos (starEach es env)).any (·.1)=false
 |[],_=>rfl
 |e::es,h=>by
  rw[List.all_cons,Bool.and_eq_true]at h;rw[sE h.1];show(false||(backTo pos (starEach es env)).any (·.1))=false;rw[An h.2];rfl
section
variable{X:Cx}{CX:NQ}{k:Nat}{f C:Addr}{fd:FuncData}{ps:List Str}{sp:Sp}{E:XK}{x m:Str}{p pos apos:Pos}{e o:Expr}{es:List Expr}{ta te:TE}{t:TA}
theorem aK(ha:PE X e te)(hr:PA X es t)(h:noStar e=true:=by rfl):PA X (e::es) (PM te t):=Pz ha hr (sE h)
theorem bC(F:aZ X.prog X.w X.K X.mg X.base CX k f fd ps sp)(hr:mE k X.A)(hg:Gl X x)(hm:X.mg x=some (.ref f))(hk:PySem.W.keepIn X.K (.ref f)=true)(hb:Binds X.K fd ps [])(hx:Passes CX X E)
  (ha:PA X (e::es) t) (hdb:(x==("__debug__":Str))=false:=by decide) (h1:noStar e=true:=by rfl) (h2:es.all noStar=true:=by rfl):PE X (.Call (.Name x p) (e::es) [] pos) (Nj sp [] E t):=
 PK F hr hg hm hk hb .nil hx ha hdb (sE h1) (An h2)
theorem dh(M:Mk X.K C f)(F:aZ X.prog X.w X.K X.mg X.base CX k f fd ps sp)(hr:mE (k+1) X.A)(hg:Gl X x)(hm:X.mg x=some (.ref C))(hb:Binds X.K fd ps [])(hx:Passes CX X E)
  (ha:PA X (e::es) t) (hdb:(x==("__debug__":Str))=false:=by decide) (h1:noStar e=true:=by rfl) (h2:es.all noStar=true:=by rfl):PE X (.Call (.Name x p) (e::es) [] pos) (Ni C sp [] E t):=
 PH M F hr hg hm hb .nil hx ha hdb (sE h1) (An h2)
theorem aU{pl:Sem Bool}(he:PE X o ta)(c:Ft X.K C)(hm:Meth X.K C m f)(F:aZ X.prog X.w X.K X.mg X.base CX k f fd ps sp)(hr:mE k X.A)(hb:Binds X.K fd ps [])(hx:Passes CX X E)(ha:PA X (e::es) t)
  (h1:noStar e=true:=by rfl) (h2:es.all noStar=true:=by rfl)
  (ht:eval (.Call (.Attribute o m apos) (e::es) [] pos) X.env=(do
   let ov ←eval o X.env
   standAt apos.atName
   let(f,first) ←holding [ov] (getMethod ov m pl)
   callWith pos f first (backTo pos (starEach (e::es) X.env)) (backToKw pos (keywordEach [] X.env))):=by rfl) :
  PE X (.Call (.Attribute o m apos) (e::es) [] pos) (M6 C m sp [] E ta t):=OC he c hm F hr hb .nil hx ha (sE h1) (An h2) ht
end
theorem QX{c:Bool}{i j:Int}{σ:St}{Q:VK}{H:Hp}(h:Q (.int (if c=true then i else j)) H):if c=true then tC (.int i) σ H Q else tC (.int j) σ H Q:=by
 cases c<;>exact h
theorem IV{c:Bool}{i j:Nat}{σ:St}{Q:VK}{H:Hp}(h:Q (.int ((if c=true then i else j:Nat):Int)) H):if c=true then tC (.int (i:Int)) σ H Q else tC (.int (j:Int)) σ H Q:=by
 cases c<;>exact h
theorem cJ{H:Hp}{x dx C:Addr}{fs gs:List (Str×V)}(hx:H x=none)(hdx:H dx=none):a6 H (upd (upd (upd H dx (.own x)) x (.ins C dx fs)) x (.ins C dx gs)):=fun b o h=>by
 rw[ax (aQ h hx),ax (aQ h hx),ax (aQ h hdx)];exact h
theorem kd{c d:Bool}{Q:VK}{H:Hp}{A:Prop}(k:Q (.bl (c&&d)) H)(f:Q (.bl d) H→A):if c=true then A else Q (.bl false) H:=by
 cases c
 ·exact k
 ·exact f k
theorem M9{c d:Bool}{Q:VK}{H:Hp}{A:Prop}(k:Q (.bl (c&&d)) H)(f:c=true→Q (.bl d) H→A):if c=true then A else Q (.bl false) H:=by
 cases c
 ·exact k
 ·exact f rfl k
theorem Kt{c d:Bool}{Q:VK}{H:Hp}{A:Prop}(k:Q (.bl (c||d)) H)(f:Q (.bl d) H→A):if c=true then Q (.bl true) H else A:=by
 cases c
 ·exact f k
 ·exact k
theorem K9{c d:Bool}{S1 S2 A:Prop}(k:if(c&&d)=true then S1 else S2)(f:(if d=true then S1 else S2)→A):if c=true then A else(if false=true then S1 else S2):=by
 cases c
 ·exact k
 ·exact f k
theorem ts{c d:Bool}{S1 S2 A:Prop}(k:if(c||d)=true then S1 else S2)(f:(if d=true then S1 else S2)→A):if c=true then(if true=true then S1 else S2)else A:=by
 cases c
 ·exact f k
 ·exact k
theorem iA{p:Prop}[Decidable p](h:decide p=true):p:=of_decide_eq_true h
theorem lp{f:Str}{v:V}{fs:List (Str×V)}{n:Nat}(h:fs.length≤n):(aw f v fs).length≤n+1:=Nat.le_trans (xb f v fs) (Nat.succ_le_succ h)
end Sb
namespace Sb
open PySem L2
open Sh11 (Ball)
open aq (extra cF g8 fR bc boundary a7)
section
variable{P:Program}{w:World}{K:PySem.W.Frag}{mg:Str→Option Value}{base:Heap}{a:Ad}
abbrev bW(a:Ad)(H:Hp)(p dx:Addr)(b:Ball):Prop:=H p=some (.ins (a.c 0) dx (fG b))
theorem dI{m n:Nat}:decide ((m:Int)=(n:Int))=decide (m=n):=by rw[decide_eq_decide];omega
theorem dL{m n:Nat}:decide ((m:Int)≤(n:Int))=decide (m≤n):=by rw[decide_eq_decide];omega
theorem dT{m n:Nat}:decide ((m:Int)<(n:Int))=decide (m<n):=by rw[decide_eq_decide];omega
inductive Jj(a:Ad)(vs:List V)(H:Hp)(Q:VK):Prop
 |mk(p dx l:Addr)(n0 n1 n2 n3 n4 n5 n6 n7:Nat)(_:vs=[.ref p,.ref l])(_:H p=some (.ins (a.c 0) dx []))(_:H l=some (.lst [.int n0,.int n1,.int n2,.int n3,.int n4,.int n5,.int n6,.int n7]))(_:Q .non (upd H p (.ins (a.c 0) dx (fG ⟨n0,n1,n2,n3,n4,n5,n6,n7⟩))))
def Ij(a:Ad):Sp:=fun vs H Q _=>Jj a vs H Q
theorem GZ:ao ["self","numbers"] ["self","numbers"] (ai wR):=⟨rfl,rfl,rfl,by decide +kernel,rfl,by decide +kernel,by decide +kernel⟩
theorem zJ(T:Txt K mg a):aZ P w K mg base cG 1 (a.f 0) (a.d 0) ["self","numbers"] (Ij a):=by
 refine T.Ball.we.F.ok GZ (fun vs H Q E h=>?_) (fun cdv A outer s H vs Q E hr h=>?_)
 ·obtain⟨p,dx,l,n0,n1,n2,n3,n4,n5,n6,n7,rfl,_⟩:=h;rfl
 ·obtain⟨p,dx,l,n0,n1,n2,n3,n4,n5,n6,n7,rfl,hp,hl,k⟩:=h;have npl:l≠p:=PQ hl hp (by intro z;cases z);refine⟨_,(ae (aW (pv 0) (aM aD (pv 1) aj (fun _ _=>rfl)) rfl) (ae (aW (pv 0) (aM aD (pv 1) aj (fun _ _=>rfl)) rfl) (ae (aW (pv 0) (aM aD (pv 1) aj (fun _ _=>rfl)) rfl) (ae (aW (pv 0) (aM aD (pv 1) aj (fun _ _=>rfl)) rfl) (ae (aW (pv 0) (aM aD (pv 1) aj (fun _ _=>rfl)) rfl) (ae (aW (pv 0) (aM aD (pv 1) aj (fun _ _=>rfl)) rfl) (ae (aW (pv 0) (aM aD (pv 1) aj (fun _ _=>rfl)) rfl) (ag (aW (pv 0) (aM aD (pv 1) aj (fun _ _=>rfl)) rfl))))))))),?_⟩;refine⟨_,rfl,_,_,_,_,rfl,rfl,bD.of hl,ar (j:=0) rfl,_,rfl,_,_,_,_,rfl,hp,T.Ball.cl,T.Ball.og,Nat.lt_of_le_of_lt (Nat.le_refl 0) (by decide),?_⟩;refine⟨_,rfl,_,_,_,_,rfl,rfl,bD.of ((ax npl).trans hl),ar (j:=1) rfl,_,rfl,_,_,_,_,rfl,aa,T.Ball.cl,T.Ball.Cf,Nat.lt_of_le_of_lt (lp (Nat.le_refl 0)) (by decide),?_⟩;refine⟨_,rfl,_,_,_,_,rfl,rfl,bD.of ((ax npl).trans ((ax npl).trans hl)),ar (j:=2) rfl,_,rfl,_,_,_,_,rfl,aa,T.Ball.cl,T.Ball.bz,Nat.lt_of_le_of_lt (lp (lp (Nat.le_refl 0))) (by decide),?_⟩;refine⟨_,rfl,_,_,_,_,rfl,rfl,bD.of ((ax npl).trans ((ax npl).trans ((ax npl).trans hl))),ar (j:=3) rfl,_,rfl,_,_,_,_,rfl,aa,T.Ball.cl,T.Ball.y1,Nat.lt_of_le_of_lt (lp (lp (lp (Nat.le_refl 0)))) (by decide),?_⟩;refine⟨_,rfl,_,_,_,_,rfl,rfl,bD.of ((ax npl).trans ((ax npl).trans ((ax npl).trans ((ax npl).trans hl)))),ar (j:=4) rfl,_,rfl,_,_,_,_,rfl,aa,T.Ball.cl,T.Ball.hZ,Nat.lt_of_le_of_lt (lp (lp (lp (lp (Nat.le_refl 0))))) (by decide),?_⟩;refine⟨_,rfl,_,_,_,_,rfl,rfl,bD.of ((ax npl).trans ((ax npl).trans ((ax npl).trans ((ax npl).trans ((ax npl).trans hl))))),ar (j:=5) rfl,_,rfl,_,_,_,_,rfl,aa,T.Ball.cl,T.Ball.Ce,Nat.lt_of_le_of_lt (lp (lp (lp (lp (lp (Nat.le_refl 0)))))) (by decide),?_⟩;refine⟨_,rfl,_,_,_,_,rfl,rfl,bD.of ((ax npl).trans ((ax npl).trans ((ax npl).trans ((ax npl).trans ((ax npl).trans ((ax npl).trans hl)))))),ar (j:=6) rfl,_,rfl,_,_,_,_,rfl,aa,T.Ball.cl,T.Ball.DG,Nat.lt_of_le_of_lt (lp (lp (lp (lp (lp (lp (Nat.le_refl 0))))))) (by decide),?_⟩;refine⟨_,rfl,_,_,_,_,rfl,rfl,bD.of ((ax npl).trans ((ax npl).trans ((ax npl).trans ((ax npl).trans ((ax npl).trans ((ax npl).trans ((ax npl).trans hl))))))),ar (j:=7) rfl,_,rfl,_,_,_,_,rfl,aa,T.Ball.cl,T.Ball.d6,Nat.lt_of_le_of_lt (lp (lp (lp (lp (lp (lp (lp (Nat.le_refl 0)))))))) (by decide),?_⟩;have e:(aw "fielder" (.int n7) (aw "end" (.int n6) (aw "out" (.int n5) (aw "how" (.int n4) (aw "line" (.int n3) (aw "runs" (.int n2) (aw "off" (.int n1) (aw "kind" (.int n0) []))))))))=fG ⟨n0,n1,n2,n3,n4,n5,n6,n7⟩:=by kernel_rfl
  have e2:=congrArg (fun fs=>upd H p (.ins (a.c 0) dx fs)) e;simp only[jz];exact Eq.mp (congrArg (Q .non) e2.symm) k
inductive HV(a:Ad)(vs:List V)(H:Hp)(Q:VK):Prop
 |mk(p dx:Addr)(b:Ball)(_:vs=[.ref p])(_:bW a H p dx b)(_:Q (.int (extra b)) H)
def FR(a:Ad):Sp:=fun vs H Q _=>HV a vs H Q
theorem FK:ao ["self"] ["self"] (ai tN):=⟨rfl,rfl,rfl,by decide +kernel,rfl,by decide +kernel,by decide +kernel⟩
theorem yr(T:Txt K mg a):aZ P w K mg base cG 1 (a.f 1) (a.d 1) ["self"] (FR a):=by
 refine T.Ball.uW.F.ok FK (fun vs H Q E h=>?_) (fun cdv A outer s H vs Q E hr h=>?_)
 ·obtain⟨p,dx,b,rfl,_⟩:=h;rfl
 ·obtain⟨p,dx,b,rfl,hp,k⟩:=h;refine⟨_,(ag (ay (dk (aT (bx (af (pv 0) rfl) (aN rfl T.fn.zg))) aj aj))),?_⟩;have e:extra b=if decide ((b.kind:Int)=(0:Nat))=true then 0 else 1:=by rw[dI];unfold extra;by_cases z:b.kind=0<;>simp[z]
  rw[e]at k;exact⟨_,rfl,_,_,_,_,_,rfl,hp,T.Ball.cl,T.Ball.og,fZ,_,_,rfl,rfl,_,rfl,(IV (i:=0) (j:=1) k)⟩
inductive HR(a:Ad)(vs:List V)(H:Hp)(Q:VK):Prop
 |mk(p dx:Addr)(b:Ball)(n:Nat)(_:vs=[.ref p,.int n])(_:bW a H p dx b)(_:Q (.int (N.gx b n)) H)
def F3(a:Ad):Sp:=fun vs H Q _=>HR a vs H Q
theorem Fu:ao ["self","kind"] ["self","kind"] (ai uc):=⟨rfl,rfl,rfl,by decide +kernel,rfl,by decide +kernel,by decide +kernel⟩
theorem eV(T:Txt K mg a):aZ P w K mg base cG 1 (a.f 2) (a.d 2) ["self","kind"] (F3 a):=by
 refine T.Ball.eP.F.ok Fu (fun vs H Q E h=>?_) (fun cdv A outer s H vs Q E hr h=>?_)
 ·obtain⟨p,dx,b,n,rfl,_⟩:=h;rfl
 ·obtain⟨p,dx,b,n,rfl,hp,k⟩:=h;refine⟨_,(ag (ay (dk (aT (bx (af (pv 0) rfl) (pv 1))) aj aj))),?_⟩;have e:N.gx b n=if decide ((b.kind:Int)=(n:Int))=true then 1 else 0:=by rw[dI];unfold N.gx;by_cases z:b.kind=n<;>simp[z]
  rw[e]at k;exact⟨_,rfl,_,_,_,_,_,rfl,hp,T.Ball.cl,T.Ball.og,fZ,_,rfl,_,_,rfl,rfl,_,rfl,(IV (i:=1) (j:=0) k)⟩
inductive Dg(a:Ad)(vs:List V)(H:Hp)(Q:VK):Prop
 |mk(p dx:Addr)(b:Ball)(_:vs=[.ref p])(_:bW a H p dx b)(_:Q (.int (cF b)) H)
def Bl(a:Ad):Sp:=fun vs H Q _=>Dg a vs H Q
theorem Bn:ao ["self"] ["self"] (ai nS):=⟨rfl,rfl,rfl,by decide +kernel,rfl,by decide +kernel,by decide +kernel⟩
theorem jo(T:Txt K mg a):aZ P w K mg base cG 2 (a.f 3) (a.d 3) ["self"] (Bl a):=by
 refine T.Ball.hX.F.ok Bn (fun vs H Q E h=>?_) (fun cdv A outer s H vs Q E hr h=>?_)
 ·obtain⟨p,dx,b,rfl,_⟩:=h;rfl
 ·obtain⟨p,dx,b,rfl,hp,k⟩:=h;refine⟨_,(ag (ay (bM cN (af (pv 0) rfl) (az (pv 0) T.Ball.cl T.Ball.lX (yr T) (hr.mono (by decide)) T.Ball.uW.b .nil au )))),?_⟩;exact⟨_,rfl,_,_,_,_,_,rfl,hp,T.Ball.cl,T.Ball.bz,cV,_,rfl,_,_,_,rfl,hp,vh,_,_,_,rfl,hp,_,_,rfl,rfl,k⟩
inductive Dc(a:Ad)(vs:List V)(H:Hp)(Q:VK):Prop
 |mk(p dx:Addr)(b:Ball)(n:Nat)(_:vs=[.ref p,.int n])(_:bW a H p dx b)(_:Q (.int (N.ud b n)) H)
def AU(a:Ad):Sp:=fun vs H Q _=>Dc a vs H Q
theorem Br:ao ["self","off"] ["self","off"] (ai nJ):=⟨rfl,rfl,rfl,by decide +kernel,rfl,by decide +kernel,by decide +kernel⟩
theorem mv(T:Txt K mg a):aZ P w K mg base cG 1 (a.f 4) (a.d 4) ["self","off"] (AU a):=by
 refine T.Ball.ke.F.ok Br (fun vs H Q E h=>?_) (fun cdv A outer s H vs Q E hr h=>?_)
 ·obtain⟨p,dx,b,n,rfl,_⟩:=h;rfl
 ·obtain⟨p,dx,b,n,rfl,hp,k⟩:=h;refine⟨_,(ag (ay (dk (aT (bx (af (pv 0) rfl) (pv 1))) (af (pv 0) rfl) aj))),?_⟩;refine⟨_,rfl,_,_,_,_,_,rfl,hp,T.Ball.cl,T.Ball.Cf,qb,_,rfl,_,_,rfl,rfl,_,rfl,?_⟩;unfold N.ud at k;refine eM (fun h=>?_) (fun h=>?_)
  ·rw[if_pos (by have:=iA h;omega)]at k;exact⟨_,rfl,_,_,_,_,_,rfl,hp,T.Ball.cl,T.Ball.bz,cV,k⟩
  ·rw[if_neg (fun z=>h (decide_eq_true (by rw[z])))]at k;exact k
inductive zH(a:Ad)(vs:List V)(H:Hp)(Q:VK):Prop
 |mk(p dx:Addr)(b:Ball)(_:vs=[.ref p])(_:bW a H p dx b)(_:Q (.bl (g8 b)) H)
def yW(a:Ad):Sp:=fun vs H Q _=>zH a vs H Q
theorem y9:ao ["self"] ["self"] (ai lU):=⟨rfl,rfl,rfl,by decide +kernel,rfl,by decide +kernel,by decide +kernel⟩
theorem km(T:Txt K mg a):aZ P w K mg base cG 1 (a.f 5) (a.d 5) ["self"] (yW a):=by
 refine T.Ball.iP.F.ok y9 (fun vs H Q E h=>?_) (fun cdv A outer s H vs Q E hr h=>?_)
 ·obtain⟨p,dx,b,rfl,_⟩:=h;rfl
 ·obtain⟨p,dx,b,rfl,hp,k⟩:=h;have e:g8 b=((!decide ((b.kind:Int)=(1:Nat)))&&decide ((b.off:Int)=(0:Nat))):=by rw[dI,dI];rfl
  rw[e]at k;refine⟨_,(ag (ay (du (bP (nK (af (pv 0) rfl) (aN rfl T.fn.xi))) (eE (bP (bx (af (pv 0) rfl) (aN rfl T.fn.sy))))))),?_⟩;exact⟨_,rfl,_,_,_,_,_,rfl,hp,T.Ball.cl,T.Ball.og,fZ,_,_,rfl,rfl,_,rfl,(kd k fun k=>⟨_,rfl,_,_,_,_,_,rfl,hp,T.Ball.cl,T.Ball.Cf,qb,_,_,rfl,rfl,k⟩)⟩
inductive C9(a:Ad)(vs:List V)(H:Hp)(Q:VK):Prop
 |mk(p dx:Addr)(b:Ball)(_:vs=[.ref p])(_:bW a H p dx b)(_:Q (.int (fR b)) H)
def Bc(a:Ad):Sp:=fun vs H Q _=>C9 a vs H Q
theorem A0:ao ["self"] ["self"] (ai nH):=⟨rfl,rfl,rfl,by decide +kernel,rfl,by decide +kernel,by decide +kernel⟩
theorem Be(T:Txt K mg a):aZ P w K mg base cG 2 (a.f 6) (a.d 6) ["self"] (Bc a):=by
 refine T.Ball.ve.F.ok A0 (fun vs H Q E h=>?_) (fun cdv A outer s H vs Q E hr h=>?_)
 ·obtain⟨p,dx,b,rfl,_⟩:=h;rfl
 ·obtain⟨p,dx,b,rfl,hp,k⟩:=h;refine⟨_,(ag (ay (dk (dR (az (pv 0) T.Ball.cl T.Ball.dZ (km T) (hr.mono (by decide)) T.Ball.iP.b .nil au )) (af (pv 0) rfl) aj))),?_⟩;refine⟨_,rfl,_,_,_,rfl,hp,ja,_,_,_,rfl,hp,_,rfl,?_⟩;unfold fR at k;refine eM (fun h=>?_) (fun h=>?_)
  ·rw[if_pos h]at k;exact⟨_,rfl,_,_,_,_,_,rfl,hp,T.Ball.cl,T.Ball.bz,cV,k⟩
  ·rw[if_neg h]at k;exact k
inductive zf(a:Ad)(vs:List V)(H:Hp)(Q:VK):Prop
 |mk(p dx:Addr)(b:Ball)(_:vs=[.ref p])(_:bW a H p dx b)(_:Q (.int (bc b)) H)
def yf(a:Ad):Sp:=fun vs H Q _=>zf a vs H Q
theorem yi:ao ["self"] ["self"] (ai kv):=⟨rfl,rfl,rfl,by decide +kernel,rfl,by decide +kernel,by decide +kernel⟩
theorem oG(T:Txt K mg a):aZ P w K mg base cG 2 (a.f 7) (a.d 7) ["self"] (yf a):=by
 refine T.Ball.kx.F.ok yi (fun vs H Q E h=>?_) (fun cdv A outer s H vs Q E hr h=>?_)
 ·obtain⟨p,dx,b,rfl,_⟩:=h;rfl
 ·obtain⟨p,dx,b,rfl,hp,k⟩:=h;refine⟨_,(ag (ay (bM cN (az (pv 0) T.Ball.cl T.Ball.lX (yr T) (hr.mono (by decide)) T.Ball.uW.b .nil au ) (aU (pv 0) T.Ball.cl T.Ball.fI (mv T) (hr.mono (by decide)) T.Ball.ke.b au (aK (aN rfl T.fn.sy) ah))))),?_⟩;exact⟨_,rfl,_,_,_,rfl,hp,vh,_,_,_,rfl,hp,_,rfl,_,_,_,rfl,hp,ko,_,_,_,0,rfl,hp,_,_,rfl,rfl,k⟩
inductive y8(a:Ad)(vs:List V)(H:Hp)(Q:VK):Prop
 |mk(p dx:Addr)(b:Ball)(n:Nat)(_:vs=[.ref p,.int n])(_:bW a H p dx b)(_:Q (.bl (boundary b n)) H)
def xX(a:Ad):Sp:=fun vs H Q _=>y8 a vs H Q
theorem ym:ao ["self","runs"] ["self","runs"] (ai kK):=⟨rfl,rfl,rfl,by decide +kernel,rfl,by decide +kernel,by decide +kernel⟩
theorem oA(T:Txt K mg a):aZ P w K mg base cG 2 (a.f 8) (a.d 8) ["self","runs"] (xX a):=by
 refine T.Ball.kG.F.ok ym (fun vs H Q E h=>?_) (fun cdv A outer s H vs Q E hr h=>?_)
 ·obtain⟨p,dx,b,n,rfl,_⟩:=h;rfl
 ·obtain⟨p,dx,b,n,rfl,hp,k⟩:=h;have e:boundary b n=(decide ((b.line:Int)=(1:Nat))&&(g8 b&&decide ((b.runs:Int)=n))):=by rw[dI,dI];rfl
  rw[e]at k;refine⟨_,(ag (ay (du (bP (bx (af (pv 0) rfl) aj)) (du (az (pv 0) T.Ball.cl T.Ball.dZ (km T) (hr.mono (by decide)) T.Ball.iP.b .nil au ) (eE (bP (bx (af (pv 0) rfl) (pv 1)))))))),?_⟩;exact⟨_,rfl,_,_,_,_,_,rfl,hp,T.Ball.cl,T.Ball.y1,qX,_,_,rfl,rfl,_,rfl,(kd k fun k=>⟨_,rfl,_,_,_,rfl,hp,ja,_,_,_,rfl,hp,_,rfl,(kd k fun k=>⟨_,rfl,_,_,_,_,_,rfl,hp,T.Ball.cl,T.Ball.bz,cV,_,rfl,_,_,rfl,rfl,k⟩)⟩)⟩
inductive rJ(a:Ad)(vs:List V)(H:Hp)(Q:VK):Prop
 |mk(p dx:Addr)(b:Ball)(_:vs=[.ref p])(_:bW a H p dx b)(_:Q (.bl (a7 b)) H)
def qQ(a:Ad):Sp:=fun vs H Q _=>rJ a vs H Q
theorem qP:ao ["self"] ["self"] (ai gf):=⟨rfl,rfl,rfl,by decide +kernel,rfl,by decide +kernel,by decide +kernel⟩
theorem jC(T:Txt K mg a):aZ P w K mg base cG 1 (a.f 9) (a.d 9) ["self"] (qQ a):=by
 refine T.Ball.gi.F.ok qP (fun vs H Q E h=>?_) (fun cdv A outer s H vs Q E hr h=>?_)
 ·obtain⟨p,dx,b,rfl,_⟩:=h;rfl
 ·obtain⟨p,dx,b,rfl,hp,k⟩:=h;have e:a7 b=((!decide ((b.how:Int)=(0:Nat)))&&decide ((b.how:Int)≤(5:Nat))):=by rw[dI,dL];rfl
  rw[e]at k;refine⟨_,(ag (ay (du (bP (nK (af (pv 0) rfl) (aN rfl T.fn.ig))) (eE (bP (Cg (af (pv 0) rfl) (aN rfl T.fn.uB))))))),?_⟩;exact⟨_,rfl,_,_,_,_,_,rfl,hp,T.Ball.cl,T.Ball.hZ,cT,_,_,rfl,rfl,_,rfl,(kd k fun k=>⟨_,rfl,_,_,_,_,_,rfl,hp,T.Ball.cl,T.Ball.hZ,cT,_,_,rfl,rfl,k⟩)⟩
inductive zj(a:Ad)(vs:List V)(H:Hp)(Q:VK):Prop
 |mk(p dx:Addr)(b:Ball)(_:vs=[.ref p])(_:bW a H p dx b)(_:Q (.bl (N.withinP b)) H)
def xT(a:Ad):Sp:=fun vs H Q _=>zj a vs H Q
theorem oK:ao ["ball","choices"] ["ball"] (ai kC):=⟨rfl,rfl,rfl,by decide +kernel,rfl,by decide +kernel,by decide +kernel⟩
theorem x6(T:Txt K mg a):aZ P w K mg base cG 1 (a.f 11) (a.d 11) ["ball"] (xT a):=by
 refine T.fn.kH.F.ok oK (fun vs H Q E h=>?_) (fun cdv A outer s H vs Q E hr h=>?_)
 ·obtain⟨p,dx,b,rfl,_⟩:=h;rfl
 ·obtain⟨p,dx,b,rfl,hp,k⟩:=h;have e:N.withinP b=((decide ((b.line:Int)≤(1:Nat))&&(decide ((b.out:Int)≤(1:Nat))&&decide ((b.end_:Int)≤(1:Nat))))&&(decide ((b.kind:Int)≤(2:Nat))&&(decide ((b.off:Int)≤(2:Nat))&&decide ((b.runs:Int)≤(9:Nat))))):=by simp only[dL];rfl
  rw[e]at k;refine⟨_,(ae (aX (i:=1) oK.nd rfl (Or.inl rfl) (du (bP (Cg (af (pv 0) rfl) aj)) (du (bP (Cg (af (pv 0) rfl) aj)) (eE (bP (Cg (af (pv 0) rfl) aj)))))) (ag (ay (du (pv 1) (du (bP (Cg (af (pv 0) rfl) (aN rfl T.fn.pz))) (du (bP (Cg (af (pv 0) rfl) (aN rfl T.fn.uJ))) (eE (bP (Cg (af (pv 0) rfl) aj))))))))),?_⟩;have k2:∀ c:Bool,Q (.bl (c&&(decide ((b.kind:Int)≤(2:Nat))&&(decide ((b.off:Int)≤(2:Nat))&&decide ((b.runs:Int)≤(9:Nat)))))) H→QI (Dz (Fq 1) (Dz (Bm (fun i j=>decide (i≤j)) (IT K (Fq 0) "kind") (tC (.int 2))) (Dz (Bm (fun i j=>decide (i≤j)) (IT K (Fq 0) "off") (tC (.int 2))) (Bm (fun i j=>decide (i≤j)) (IT K (Fq 0) "runs") (tC (.int 9)))))) { nx:=fun _ H'=>Q .non H',rt:=Q } [some (.ref p),some (.bl c)] H:=fun c k=>⟨_,rfl,_,rfl,(kd k fun k=>⟨_,rfl,_,_,_,_,_,rfl,hp,T.Ball.cl,T.Ball.og,fZ,_,_,rfl,rfl,_,rfl,(kd k fun k=>⟨_,rfl,_,_,_,_,_,rfl,hp,T.Ball.cl,T.Ball.Cf,qb,_,_,rfl,rfl,_,rfl,(kd k fun k=>⟨_,rfl,_,_,_,_,_,rfl,hp,T.Ball.cl,T.Ball.bz,cV,_,_,rfl,rfl,k⟩)⟩)⟩)⟩
  have k3:∀ c:Bool,c=(decide ((b.line:Int)≤(1:Nat))&&(decide ((b.out:Int)≤(1:Nat))&&decide ((b.end_:Int)≤(1:Nat))))→QI (Dz (Fq 1) (Dz (Bm (fun i j=>decide (i≤j)) (IT K (Fq 0) "kind") (tC (.int 2))) (Dz (Bm (fun i j=>decide (i≤j)) (IT K (Fq 0) "off") (tC (.int 2))) (Bm (fun i j=>decide (i≤j)) (IT K (Fq 0) "runs") (tC (.int 9)))))) { nx:=fun _ H'=>Q .non H',rt:=Q } [some (.ref p),some (.bl c)] H:=fun c hc=>k2 c (by rw[hc];exact k)
  have k:=k3 _ rfl;refine⟨_,rfl,_,_,_,_,_,rfl,hp,T.Ball.cl,T.Ball.y1,qX,_,_,rfl,rfl,_,rfl,?_⟩;refine eM (fun h1=>?_) (fun h1=>?_)
  ·refine⟨_,rfl,_,_,_,_,_,rfl,hp,T.Ball.cl,T.Ball.Ce,pL,_,_,rfl,rfl,_,rfl,?_⟩;refine eM (fun h2=>?_) (fun h2=>?_)
   ·have h1':decide ((b.line:Int)≤(1:Nat))=true:=h1;have h2':decide ((b.out:Int)≤(1:Nat))=true:=h2;exact⟨_,rfl,_,_,_,_,_,rfl,hp,T.Ball.cl,T.Ball.DG,uR,_,_,rfl,rfl,k3 _ (by rw[h1',h2'];rfl)⟩
   ·have h1':decide ((b.line:Int)≤(1:Nat))=true:=h1;have h2':decide ((b.out:Int)≤(1:Nat))=false:=Bool.not_eq_true _ |>.mp h2
    exact k3 _ (by rw[h1',h2'];rfl)
  ·have h1':decide ((b.line:Int)≤(1:Nat))=false:=Bool.not_eq_true _ |>.mp h1
   exact k3 _ (by rw[h1'];rfl)
inductive Li(a:Ad)(vs:List V)(H:Hp)(Q:VK):Prop
 |mk(p dx:Addr)(b:Ball)(_:vs=[.ref p])(_:bW a H p dx b)(_:Q (.bl (N.zN b)) H)
def IB(a:Ad):Sp:=fun vs H Q _=>Li a vs H Q
theorem Jh:ao ["ball"] ["ball"] (ai y4):=⟨rfl,rfl,rfl,by decide +kernel,rfl,by decide +kernel,by decide +kernel⟩
theorem IL(T:Txt K mg a):aZ P w K mg base cG 2 (a.f 12) (a.d 12) ["ball"] (IB a):=by
 refine T.fn.za.F.ok Jh (fun vs H Q E h=>?_) (fun cdv A outer s H vs Q E hr h=>?_)
 ·obtain⟨p,dx,b,rfl,_⟩:=h;rfl
 ·obtain⟨p,dx,b,rfl,hp,k⟩:=h;refine⟨_,(ae (bN (PW.pt (uU (aT (nK (af (pv 0) rfl) (aN rfl T.fn.sy))) (oV (PW.pt (ny (aT (bx (af (pv 0) rfl) (aN rfl T.fn.xi))) (qJ (aT (bx (af (pv 0) rfl) aj)))))))) (ag (ay pI)) aY) (ae (bN (aT (bx (af (pv 0) rfl) aj)) (ag (ay (IK (bP (bx (af (pv 0) rfl) aj)) (eE (du (bP (bx (af (pv 0) rfl) aj)) (eE (az (pv 0) T.Ball.cl T.Ball.dZ (km T) (hr.mono (by decide)) T.Ball.iP.b .nil au ))))))) aY) (ag (ay pI)))),?_⟩;refine⟨_,rfl,_,_,_,_,_,rfl,hp,T.Ball.cl,T.Ball.Cf,qb,_,_,rfl,rfl,_,rfl,(K9 ?k1 fun k=>⟨_,rfl,_,_,_,_,_,rfl,hp,T.Ball.cl,T.Ball.og,fZ,_,_,rfl,rfl,_,rfl,(ts k fun k=>⟨_,rfl,_,_,_,_,_,rfl,hp,T.Ball.cl,T.Ball.bz,cV,_,_,rfl,rfl,_,rfl,k⟩)⟩)⟩;unfold N.zN at k;refine eM (fun h=>?_) (fun h=>?_)
  ·rw[if_pos (by simp at h;omega)]at k;exact k
  ·rw[if_neg (by simp at h;omega)]at k;refine⟨_,rfl,_,_,_,_,_,rfl,hp,T.Ball.cl,T.Ball.y1,qX,_,_,rfl,rfl,_,rfl,?_⟩;refine eM (fun h=>?_) (fun h=>?_)
   ·rw[if_pos (by simp at h;omega)]at k;have e:(decide (b.runs=4)||(decide (b.runs=6)&&g8 b))=(decide ((b.runs:Int)=(4:Nat))||(decide ((b.runs:Int)=(6:Nat))&&g8 b)):=by rw[dI,dI]
    rw[e]at k;exact⟨_,rfl,_,_,_,_,_,rfl,hp,T.Ball.cl,T.Ball.bz,cV,_,_,rfl,rfl,_,rfl,(Kt k fun k=>⟨_,rfl,_,_,_,_,_,rfl,hp,T.Ball.cl,T.Ball.bz,cV,_,_,rfl,rfl,_,rfl,(kd k fun k=>⟨_,rfl,_,_,_,rfl,hp,ja,_,_,_,rfl,hp,k⟩)⟩)⟩
   ·rw[if_neg (by simp at h;omega)]at k;exact k
inductive uh(a:Ad)(vs:List V)(H:Hp)(Q:VK):Prop
 |mk(p dx:Addr)(b:Ball)(_:vs=[.ref p])(_:bW a H p dx b)(_:Q (.bl (decide (b.how=6)||decide (b.how=7))) H)
def tw(a:Ad):Sp:=fun vs H Q _=>uh a vs H Q
theorem sr:ao ["ball"] ["ball"] (ai hR):=⟨rfl,rfl,rfl,by decide +kernel,rfl,by decide +kernel,by decide +kernel⟩
theorem tJ(T:Txt K mg a):aZ P w K mg base cG 1 (a.f 14) (a.d 14) ["ball"] (tw a):=by
 refine T.fn.hG.F.ok sr (fun vs H Q E h=>?_) (fun cdv A outer s H vs Q E hr h=>?_)
 ·obtain⟨p,dx,b,rfl,_⟩:=h;rfl
 ·obtain⟨p,dx,b,rfl,hp,k⟩:=h;have e:(decide (b.how=6)||decide (b.how=7))=(decide ((b.how:Int)=(6:Nat))||decide ((b.how:Int)=(7:Nat))):=by rw[dI,dI]
  rw[e]at k;refine⟨_,(ag (ay (IK (bP (bx (af (pv 0) rfl) (aN rfl T.fn.xP))) (eE (bP (bx (af (pv 0) rfl) (aN rfl T.fn.ub))))))),?_⟩;exact⟨_,rfl,_,_,_,_,_,rfl,hp,T.Ball.cl,T.Ball.hZ,cT,_,_,rfl,rfl,_,rfl,(Kt k fun k=>⟨_,rfl,_,_,_,_,_,rfl,hp,T.Ball.cl,T.Ball.hZ,cT,_,_,rfl,rfl,k⟩)⟩
inductive EM(a:Ad)(vs:List V)(H:Hp)(Q:VK):Prop
 |mk(p dx:Addr)(b:Ball)(_:vs=[.ref p])(_:bW a H p dx b)(_:Q (.bl (N.jr b)) H)
def CZ(a:Ad):Sp:=fun vs H Q _=>EM a vs H Q
theorem Dk:ao ["ball"] ["ball"] (ai qx):=⟨rfl,rfl,rfl,by decide +kernel,rfl,by decide +kernel,by decide +kernel⟩
theorem Dj(T:Txt K mg a):aZ P w K mg base cG 1 (a.f 15) (a.d 15) ["ball"] (CZ a):=by
 refine T.fn.qA.F.ok Dk (fun vs H Q E h=>?_) (fun cdv A outer s H vs Q E hr h=>?_)
 ·obtain⟨p,dx,b,rfl,_⟩:=h;rfl
 ·obtain⟨p,dx,b,rfl,hp,k⟩:=h;refine⟨_,(ae (bN (PW.pt (ny (aT (bx (af (pv 0) rfl) (aN rfl T.fn.En))) (qJ (aT (bx (af (pv 0) rfl) (aN rfl T.fn.Bq)))))) (ag (ay (bP (yo (af (pv 0) rfl) (aN rfl T.fn.dQ))))) aY) (ae (bN (aT (bx (af (pv 0) rfl) (aN rfl T.fn.xP))) (ag (ay (bP (Cg (af (pv 0) rfl) (aN rfl T.fn.dQ))))) aY) (ag (ay (bP (bx (af (pv 0) rfl) (aN rfl T.fn.dQ))))))),?_⟩;refine⟨_,rfl,_,_,_,_,_,rfl,hp,T.Ball.cl,T.Ball.hZ,cT,_,_,rfl,rfl,_,rfl,(ts ?k2 fun k=>⟨_,rfl,_,_,_,_,_,rfl,hp,T.Ball.cl,T.Ball.hZ,cT,_,_,rfl,rfl,_,rfl,k⟩)⟩;unfold N.jr at k;refine eM (fun h=>?_) (fun h=>?_)
  ·rw[if_pos (by simp at h;omega),←dT]at k;exact⟨_,rfl,_,_,_,_,_,rfl,hp,T.Ball.cl,T.Ball.d6,i6,_,_,rfl,rfl,k⟩
  ·rw[if_neg (by simp at h;omega)]at k;refine⟨_,rfl,_,_,_,_,_,rfl,hp,T.Ball.cl,T.Ball.hZ,cT,_,_,rfl,rfl,_,rfl,?_⟩;refine eM (fun h=>?_) (fun h=>?_)
   ·rw[if_pos (by simp at h;omega),←dL]at k;exact⟨_,rfl,_,_,_,_,_,rfl,hp,T.Ball.cl,T.Ball.d6,i6,_,_,rfl,rfl,k⟩
   ·rw[if_neg (by simp at h;omega),←dI]at k;exact⟨_,rfl,_,_,_,_,_,rfl,hp,T.Ball.cl,T.Ball.d6,i6,_,_,rfl,rfl,k⟩
end
end Sb
namespace Sb
open PySem L2
open Sh11 (Ball Bat Bowl)
open aq (extra cF g8 fR bc boundary a7)
section
variable{P:Program}{w:World}{K:PySem.W.Frag}{mg:Str→Option Value}{base:Heap}{a:Ad}
abbrev Ab(a:Ad)(H:Hp)(p dx:Addr)(x:Bat):Prop:=H p=some (.ins (a.c 1) dx (dC x))
abbrev GF(a:Ad)(H:Hp)(p dx:Addr)(x:Bowl):Prop:=H p=some (.ins (a.c 2) dx (dY x))
abbrev NM(a:Ad)(H:Hp)(p dx:Addr)(x:N.Over):Prop:=H p=some (.ins (a.c 3) dx (rH x))
abbrev Hn(a:Ad)(H:Hp)(p dx:Addr)(x:Sh11.Stand):Prop:=H p=some (.ins (a.c 4) dx (fK x))
abbrev G8(a:Ad)(H:Hp)(p dx:Addr)(x:N.bB):Prop:=H p=some (.ins (a.c 5) dx (iy x))
inductive Fw(a:Ad)(vs:List V)(H:Hp)(Q:VK):Prop
 |mk(p dx:Addr)(n0 n1 n2 n3 n4 n5 n6 n7:Nat)(_:vs=[.ref p,.int n0,.int n1,.int n2,.int n3,.int n4,.int n5,.int n6,.int n7])(_:H p=some (.ins (a.c 1) dx []))(_:Q .non (upd H p (.ins (a.c 1) dx (dC ⟨n0,n1,n2,n3,n4,n5,n6,n7⟩))))
def Ew(a:Ad):Sp:=fun vs H Q _=>Fw a vs H Q
theorem DP:ao ["self","place","runs","balls","fours","sixes","how","bowler","fielder"] ["self","place","runs","balls","fours","sixes","how","bowler","fielder"] (ai rD):=⟨rfl,rfl,rfl,by decide +kernel,rfl,by decide +kernel,by decide +kernel⟩
theorem lx(T:Txt K mg a):aZ P w K mg base cG 1 (a.f 19) (a.d 19) ["self","place","runs","balls","fours","sixes","how","bowler","fielder"] (Ew a):=by
 refine T.aE.j0.F.ok DP (fun vs H Q E h=>?_) (fun cdv A outer s H vs Q E hr h=>?_)
 ·obtain⟨p,dx,n0,n1,n2,n3,n4,n5,n6,n7,rfl,_⟩:=h;rfl
 ·obtain⟨p,dx,n0,n1,n2,n3,n4,n5,n6,n7,rfl,hp,k⟩:=h;refine⟨_,(ae (aW (pv 0) (pv 1) rfl) (ae (aW (pv 0) (pv 2) rfl) (ae (aW (pv 0) (pv 3) rfl) (ae (aW (pv 0) (pv 4) rfl) (ae (aW (pv 0) (pv 5) rfl) (ae (aW (pv 0) (pv 6) rfl) (ae (aW (pv 0) (pv 7) rfl) (ag (aW (pv 0) (pv 8) rfl))))))))),?_⟩;refine⟨_,rfl,_,rfl,_,_,_,_,rfl,hp,T.aE.cl,T.aE.oX,Nat.lt_of_le_of_lt (Nat.le_refl 0) (by decide),?_⟩;refine⟨_,rfl,_,rfl,_,_,_,_,rfl,aa,T.aE.cl,T.aE.bz,Nat.lt_of_le_of_lt (lp (Nat.le_refl 0)) (by decide),?_⟩;refine⟨_,rfl,_,rfl,_,_,_,_,rfl,aa,T.aE.cl,T.aE.bS,Nat.lt_of_le_of_lt (lp (lp (Nat.le_refl 0))) (by decide),?_⟩;refine⟨_,rfl,_,rfl,_,_,_,_,rfl,aa,T.aE.cl,T.aE.tR,Nat.lt_of_le_of_lt (lp (lp (lp (Nat.le_refl 0)))) (by decide),?_⟩;refine⟨_,rfl,_,rfl,_,_,_,_,rfl,aa,T.aE.cl,T.aE.tT,Nat.lt_of_le_of_lt (lp (lp (lp (lp (Nat.le_refl 0))))) (by decide),?_⟩;refine⟨_,rfl,_,rfl,_,_,_,_,rfl,aa,T.aE.cl,T.aE.hZ,Nat.lt_of_le_of_lt (lp (lp (lp (lp (lp (Nat.le_refl 0)))))) (by decide),?_⟩;refine⟨_,rfl,_,rfl,_,_,_,_,rfl,aa,T.aE.cl,T.aE.fV,Nat.lt_of_le_of_lt (lp (lp (lp (lp (lp (lp (Nat.le_refl 0))))))) (by decide),?_⟩;refine⟨_,rfl,_,rfl,_,_,_,_,rfl,aa,T.aE.cl,T.aE.d6,Nat.lt_of_le_of_lt (lp (lp (lp (lp (lp (lp (lp (Nat.le_refl 0)))))))) (by decide),?_⟩;have e:(aw "fielder" (.int n7) (aw "bowler" (.int n6) (aw "how" (.int n5) (aw "sixes" (.int n4) (aw "fours" (.int n3) (aw "balls" (.int n2) (aw "runs" (.int n1) (aw "place" (.int n0) []))))))))=dC ⟨n0,n1,n2,n3,n4,n5,n6,n7⟩:=by kernel_rfl
  have e2:=congrArg (fun fs=>upd H p (.ins (a.c 1) dx fs)) e;simp only[jz];exact Eq.mp (congrArg (Q .non) e2.symm) k
inductive AS(a:Ad)(vs:List V)(H:Hp)(Q:VK):Prop
 |mk(p dx:Addr)(x:Bat)(_:vs=[.ref p])(_:Ab a H p dx x)(_:∀ l,H l=none→Q (.ref l) (upd H l (.lst ((N.MO x).map V.int))))
def z6(a:Ad):Sp:=fun vs H Q _=>AS a vs H Q
theorem zt:ao ["self"] ["self"] (ai mD):=⟨rfl,rfl,rfl,by decide +kernel,rfl,by decide +kernel,by decide +kernel⟩
theorem Ag(T:Txt K mg a):aZ P w K mg base cG 1 (a.f 20) (a.d 20) ["self"] (z6 a):=by
 refine T.aE.sT.F.ok zt (fun vs H Q E h=>?_) (fun cdv A outer s H vs Q E hr h=>?_)
 ·obtain⟨p,dx,x,rfl,_⟩:=h;rfl
 ·obtain⟨p,dx,x,rfl,hp,k⟩:=h;refine⟨_,(ag (ay (bO (aK (af (pv 0) rfl) (aK (af (pv 0) rfl) (aK (af (pv 0) rfl) (aK (af (pv 0) rfl) (aK (af (pv 0) rfl) (aK (af (pv 0) rfl) (aK (af (pv 0) rfl) (aK (af (pv 0) rfl) ah))))))))))),?_⟩;exact⟨_,rfl,_,_,_,_,_,rfl,hp,T.aE.cl,T.aE.oX,gC,_,rfl,_,_,_,_,_,rfl,hp,T.aE.cl,T.aE.bz,mR,_,rfl,_,_,_,_,_,rfl,hp,T.aE.cl,T.aE.bS,lV,_,rfl,_,_,_,_,_,rfl,hp,T.aE.cl,T.aE.tR,lF,_,rfl,_,_,_,_,_,rfl,hp,T.aE.cl,T.aE.tT,lI,_,rfl,_,_,_,_,_,rfl,hp,T.aE.cl,T.aE.hZ,uL,_,rfl,_,_,_,_,_,rfl,hp,T.aE.cl,T.aE.fV,vn,_,rfl,_,_,_,_,_,rfl,hp,T.aE.cl,T.aE.d6,sQ,(by show 8≤sizeLine;decide),k⟩
inductive xt(a:Ad)(vs:List V)(H:Hp)(Q:VK):Prop
 |mk(p dx:Addr)(x:Bat)(_:vs=[.ref p])(_:Ab a H p dx x)(_:Q (.bl (aq.bI x)) H)
def vK(a:Ad):Sp:=fun vs H Q _=>xt a vs H Q
theorem vt:ao ["self"] ["self"] (ai i7):=⟨rfl,rfl,rfl,by decide +kernel,rfl,by decide +kernel,by decide +kernel⟩
theorem mj(T:Txt K mg a):aZ P w K mg base cG 1 (a.f 21) (a.d 21) ["self"] (vK a):=by
 refine T.aE.iY.F.ok vt (fun vs H Q E h=>?_) (fun cdv A outer s H vs Q E hr h=>?_)
 ·obtain⟨p,dx,x,rfl,_⟩:=h;rfl
 ·obtain⟨p,dx,x,rfl,hp,k⟩:=h;have e:aq.bI x=(decide ((x.place:Int)=(0:Nat))||decide ((x.how:Int)=(9:Nat))):=by rw[dI,dI];rfl
  rw[e]at k;refine⟨_,(ag (ay (IK (bP (bx (af (pv 0) rfl) aj)) (eE (bP (bx (af (pv 0) rfl) (aN rfl T.fn.nE))))))),?_⟩;exact⟨_,rfl,_,_,_,_,_,rfl,hp,T.aE.cl,T.aE.oX,gC,_,_,rfl,rfl,_,rfl,(Kt k fun k=>⟨_,rfl,_,_,_,_,_,rfl,hp,T.aE.cl,T.aE.hZ,uL,_,_,rfl,rfl,k⟩)⟩
inductive EI(a:Ad)(vs:List V)(H:Hp)(Q:VK):Prop
 |mk(p dx pb db:Addr)(x:Bat)(b:Ball)(_:vs=[.ref p,.ref pb])(_:Ab a H p dx x)(_:bW a H pb db b)(_:∀ H' q dq,a6 H H'→(q=p∨H q=none)→Ab a H' q dq (N.jW b x)→Q (.ref q) H')
def Ck(a:Ad):Sp:=fun vs H Q _=>EI a vs H Q
theorem j7:ao ["self","ball","runs","fours","sixes"] ["self","ball"] (ai qB):=⟨rfl,rfl,rfl,by decide +kernel,rfl,by decide +kernel,by decide +kernel⟩
theorem CV(T:Txt K mg a):aZ P w K mg base cG 3 (a.f 22) (a.d 22) ["self","ball"] (Ck a):=by
 refine T.aE.xc.F.ok j7 (fun vs H Q E h=>?_) (fun cdv A outer s H vs Q E hr h=>?_)
 ·obtain⟨p,dx,pb,db,x,b,rfl,_⟩:=h;rfl
 ·obtain⟨p,dx,pb,db,x,b,rfl,hp,hb,k⟩:=h;refine⟨_,(ae (bN (aT (bx (af (pv 1) rfl) (aN rfl T.fn.xi))) (ag (ay (pv 0))) aY) (ae (aX (i:=2) j7.nd rfl (Or.inl rfl) (bM cN (af (pv 0) rfl) (az (pv 1) T.Ball.cl T.Ball.kg (Be T) (hr.mono (by decide)) T.Ball.ve.b .nil au ))) (ae (aX (i:=3) j7.nd rfl (Or.inl rfl) (bM cN (af (pv 0) rfl) (dk (dR (aU (pv 1) T.Ball.cl T.Ball.fk (oA T) (hr.mono (by decide)) T.Ball.kG.b au (aK aj ah))) aj aj))) (ae (aX (i:=4) j7.nd rfl (Or.inl rfl) (bM cN (af (pv 0) rfl) (dk (dR (aU (pv 1) T.Ball.cl T.Ball.fk (oA T) (hr.mono (by decide)) T.Ball.kG.b au (aK aj ah))) aj aj))) (ag (ay (dh T.aE.vg (lx T) (hr.mono (by decide)) rfl T.aE.AF T.aE.j0.b au (aK (af (pv 0) rfl) (aK (pv 2) (aK (bM cN (af (pv 0) rfl) aj) (aK (pv 3) (aK (pv 4) (aK (af (pv 0) rfl) (aK (af (pv 0) rfl) (aK (af (pv 0) rfl) ah))))))))))))))),?_⟩;refine⟨_,rfl,_,_,_,_,_,rfl,hb,T.Ball.cl,T.Ball.og,fZ,_,_,rfl,rfl,_,rfl,?_⟩;refine eM (fun h=>?_) (fun h=>?_)
  ·have e:N.jW b x=x:=by unfold N.jW;rw[if_pos (by simp at h;omega)]
   rw[e]at k;exact⟨_,rfl,k H p dx (a6.refl H) (.inl rfl) hp⟩
  ·have e:N.jW b x=⟨x.place,x.runs+fR b,x.balls+1,x.fours+(if boundary b 4=true then 1 else 0),x.sixes+(if boundary b 6=true then 1 else 0),x.how,x.bowler,x.fielder⟩:=by unfold N.jW;rw[if_neg (by simp at h;omega)]
   rw[e]at k;refine⟨_,rfl,_,_,_,_,_,rfl,hp,T.aE.cl,T.aE.bz,mR,_,rfl,_,_,_,rfl,hb,yV,_,_,_,rfl,hb,_,_,rfl,rfl,?_⟩;refine⟨_,rfl,_,_,_,_,_,rfl,hp,T.aE.cl,T.aE.tR,lF,_,rfl,_,_,_,rfl,hb,md,_,_,_,4,rfl,hb,_,rfl,(IV (i:=1) (j:=0) ⟨_,_,rfl,rfl,?_⟩)⟩;refine⟨_,rfl,_,_,_,_,_,rfl,hp,T.aE.cl,T.aE.tT,lI,_,rfl,_,_,_,rfl,hb,md,_,_,_,6,rfl,hb,_,rfl,(IV (i:=1) (j:=0) ⟨_,_,rfl,rfl,?_⟩)⟩;exact⟨_,rfl,_,_,_,_,_,rfl,hp,T.aE.cl,T.aE.oX,gC,_,rfl,_,rfl,_,_,_,_,_,rfl,hp,T.aE.cl,T.aE.bS,lV,_,_,rfl,rfl,_,rfl,_,rfl,_,rfl,_,_,_,_,_,rfl,hp,T.aE.cl,T.aE.hZ,uL,_,rfl,_,_,_,_,_,rfl,hp,T.aE.cl,T.aE.fV,vn,_,rfl,_,_,_,_,_,rfl,hp,T.aE.cl,T.aE.d6,sQ,fun q dq hq hdq _=>⟨q,dq,x.place,x.runs+fR b,x.balls+1,x.fours+(if boundary b 4=true then 1 else 0),x.sixes+(if boundary b 6=true then 1 else 0),x.how,x.bowler,x.fielder,rfl,aa,rfl,k _ q dq (cJ hq hdq) (.inr hq) aa⟩⟩
inductive FF(a:Ad)(vs:List V)(H:Hp)(Q:VK):Prop
 |mk(p dx:Addr)(x:Bat)(n0 n1 n2:Nat)(_:vs=[.ref p,.int n0,.int n1,.int n2])(_:Ab a H p dx x)(_:∀ H' q dq,a6 H H'→H q=none→Ab a H' q dq (N.Ds n0 n1 n2 x)→Q (.ref q) H')
def EZ(a:Ad):Sp:=fun vs H Q _=>FF a vs H Q
theorem Ff:ao ["self","how","bowler","fielder"] ["self","how","bowler","fielder"] (ai rV):=⟨rfl,rfl,rfl,by decide +kernel,rfl,by decide +kernel,by decide +kernel⟩
theorem Ek(T:Txt K mg a):aZ P w K mg base cG 3 (a.f 23) (a.d 23) ["self","how","bowler","fielder"] (EZ a):=by
 refine T.aE.yA.F.ok Ff (fun vs H Q E h=>?_) (fun cdv A outer s H vs Q E hr h=>?_)
 ·obtain⟨p,dx,x,n0,n1,n2,rfl,_⟩:=h;rfl
 ·obtain⟨p,dx,x,n0,n1,n2,rfl,hp,k⟩:=h;refine⟨_,(ag (ay (dh T.aE.vg (lx T) (hr.mono (by decide)) rfl T.aE.AF T.aE.j0.b au (aK (af (pv 0) rfl) (aK (af (pv 0) rfl) (aK (af (pv 0) rfl) (aK (af (pv 0) rfl) (aK (af (pv 0) rfl) (aK (pv 1) (aK (pv 2) (aK (pv 3) ah))))))))))),?_⟩;exact⟨_,rfl,_,_,_,_,_,rfl,hp,T.aE.cl,T.aE.oX,gC,_,rfl,_,_,_,_,_,rfl,hp,T.aE.cl,T.aE.bz,mR,_,rfl,_,_,_,_,_,rfl,hp,T.aE.cl,T.aE.bS,lV,_,rfl,_,_,_,_,_,rfl,hp,T.aE.cl,T.aE.tR,lF,_,rfl,_,_,_,_,_,rfl,hp,T.aE.cl,T.aE.tT,lI,_,rfl,_,rfl,_,rfl,fun q dq hq hdq _=>⟨q,dq,x.place,x.runs,x.balls,x.fours,x.sixes,n0,n1,n2,rfl,aa,rfl,k _ q dq (cJ hq hdq) hq aa⟩⟩
inductive Fs(a:Ad)(vs:List V)(H:Hp)(Q:VK):Prop
 |mk(p dx:Addr)(x:Bat)(n0:Nat)(_:vs=[.ref p,.int n0])(_:Ab a H p dx x)(_:∀ H' q dq,a6 H H'→H q=none→Ab a H' q dq (N.kf n0 x)→Q (.ref q) H')
def Fh(a:Ad):Sp:=fun vs H Q _=>Fs a vs H Q
theorem Em:ao ["self","place"] ["self","place"] (ai rG):=⟨rfl,rfl,rfl,by decide +kernel,rfl,by decide +kernel,by decide +kernel⟩
theorem DJ(T:Txt K mg a):aZ P w K mg base cG 3 (a.f 24) (a.d 24) ["self","place"] (Fh a):=by
 refine T.aE.yy.F.ok Em (fun vs H Q E h=>?_) (fun cdv A outer s H vs Q E hr h=>?_)
 ·obtain⟨p,dx,x,n0,rfl,_⟩:=h;rfl
 ·obtain⟨p,dx,x,n0,rfl,hp,k⟩:=h;refine⟨_,(ag (ay (dh T.aE.vg (lx T) (hr.mono (by decide)) rfl T.aE.AF T.aE.j0.b au (aK (pv 1) (aK (af (pv 0) rfl) (aK (af (pv 0) rfl) (aK (af (pv 0) rfl) (aK (af (pv 0) rfl) (aK (aN rfl T.fn.ig) (aK (aN rfl T.fn.dQ) (aK (aN rfl T.fn.dQ) ah))))))))))),?_⟩;exact⟨_,rfl,_,rfl,_,_,_,_,_,rfl,hp,T.aE.cl,T.aE.bz,mR,_,rfl,_,_,_,_,_,rfl,hp,T.aE.cl,T.aE.bS,lV,_,rfl,_,_,_,_,_,rfl,hp,T.aE.cl,T.aE.tR,lF,_,rfl,_,_,_,_,_,rfl,hp,T.aE.cl,T.aE.tT,lI,fun q dq hq hdq _=>⟨q,dq,n0,x.runs,x.balls,x.fours,x.sixes,0,11,11,rfl,aa,rfl,k _ q dq (cJ hq hdq) hq aa⟩⟩
inductive HS(a:Ad)(vs:List V)(H:Hp)(Q:VK):Prop
 |mk(_:vs=[])(_:∀ H' q dq,a6 H H'→H q=none→Ab a H' q dq Sh11.freshBat→Q (.ref q) H')
def F9(a:Ad):Sp:=fun vs H Q _=>HS a vs H Q
theorem Fv:ao [] [] (ai uu):=⟨rfl,rfl,rfl,by decide +kernel,rfl,by decide +kernel,by decide +kernel⟩
theorem FH(T:Txt K mg a):aZ P w K mg base cG 3 (a.f 25) (a.d 25) [] (F9 a):=by
 refine T.fn.t7.F.ok Fv (fun vs H Q E h=>?_) (fun cdv A outer s H vs Q E hr h=>?_)
 ·obtain⟨rfl,_⟩:=h;rfl
 ·obtain⟨rfl,k⟩:=h;refine⟨_,(ag (ay (dh T.aE.vg (lx T) (hr.mono (by decide)) rfl T.aE.AF T.aE.j0.b au (aK aj (aK aj (aK aj (aK aj (aK aj (aK (aN rfl T.fn.ig) (aK (aN rfl T.fn.dQ) (aK (aN rfl T.fn.dQ) ah))))))))))),?_⟩;exact fun q dq hq hdq _=>⟨q,dq,0,0,0,0,0,0,11,11,rfl,aa,rfl,k _ q dq (cJ hq hdq) hq aa⟩
inductive DK(a:Ad)(vs:List V)(H:Hp)(Q:VK):Prop
 |mk(p dx:Addr)(n0 n1 n2 n3 n4 n5:Nat)(_:vs=[.ref p,.int n0,.int n1,.int n2,.int n3,.int n4,.int n5])(_:H p=some (.ins (a.c 2) dx []))(_:Q .non (upd H p (.ins (a.c 2) dx (dY ⟨n0,n1,n2,n3,n4,n5⟩))))
def CT(a:Ad):Sp:=fun vs H Q _=>DK a vs H Q
theorem C6:ao ["self","balls","maidens","runs","wickets","wides","no_balls"] ["self","balls","maidens","runs","wickets","wides","no_balls"] (ai qL):=⟨rfl,rfl,rfl,by decide +kernel,rfl,by decide +kernel,by decide +kernel⟩
theorem oq(T:Txt K mg a):aZ P w K mg base cG 1 (a.f 26) (a.d 26) ["self","balls","maidens","runs","wickets","wides","no_balls"] (CT a):=by
 refine T.aR.lz.F.ok C6 (fun vs H Q E h=>?_) (fun cdv A outer s H vs Q E hr h=>?_)
 ·obtain⟨p,dx,n0,n1,n2,n3,n4,n5,rfl,_⟩:=h;rfl
 ·obtain⟨p,dx,n0,n1,n2,n3,n4,n5,rfl,hp,k⟩:=h;refine⟨_,(ae (aW (pv 0) (pv 1) rfl) (ae (aW (pv 0) (pv 2) rfl) (ae (aW (pv 0) (pv 3) rfl) (ae (aW (pv 0) (pv 4) rfl) (ae (aW (pv 0) (pv 5) rfl) (ag (aW (pv 0) (pv 6) rfl))))))),?_⟩;refine⟨_,rfl,_,rfl,_,_,_,_,rfl,hp,T.aR.cl,T.aR.bS,Nat.lt_of_le_of_lt (Nat.le_refl 0) (by decide),?_⟩;refine⟨_,rfl,_,rfl,_,_,_,_,rfl,aa,T.aR.cl,T.aR.pB,Nat.lt_of_le_of_lt (lp (Nat.le_refl 0)) (by decide),?_⟩;refine⟨_,rfl,_,rfl,_,_,_,_,rfl,aa,T.aR.cl,T.aR.bz,Nat.lt_of_le_of_lt (lp (lp (Nat.le_refl 0))) (by decide),?_⟩;refine⟨_,rfl,_,rfl,_,_,_,_,rfl,aa,T.aR.cl,T.aR.pE,Nat.lt_of_le_of_lt (lp (lp (lp (Nat.le_refl 0)))) (by decide),?_⟩;refine⟨_,rfl,_,rfl,_,_,_,_,rfl,aa,T.aR.cl,T.aR.jt,Nat.lt_of_le_of_lt (lp (lp (lp (lp (Nat.le_refl 0))))) (by decide),?_⟩;refine⟨_,rfl,_,rfl,_,_,_,_,rfl,aa,T.aR.cl,T.aR.dH,Nat.lt_of_le_of_lt (lp (lp (lp (lp (lp (Nat.le_refl 0)))))) (by decide),?_⟩;have e:(aw "no_balls" (.int n5) (aw "wides" (.int n4) (aw "wickets" (.int n3) (aw "runs" (.int n2) (aw "maidens" (.int n1) (aw "balls" (.int n0) []))))))=dY ⟨n0,n1,n2,n3,n4,n5⟩:=by kernel_rfl
  have e2:=congrArg (fun fs=>upd H p (.ins (a.c 2) dx fs)) e;simp only[jz];exact Eq.mp (congrArg (Q .non) e2.symm) k
inductive zG(a:Ad)(vs:List V)(H:Hp)(Q:VK):Prop
 |mk(p dx:Addr)(x:Bowl)(_:vs=[.ref p])(_:GF a H p dx x)(_:∀ l,H l=none→Q (.ref l) (upd H l (.lst ((N.MJ x).map V.int))))
def yJ(a:Ad):Sp:=fun vs H Q _=>zG a vs H Q
theorem yK:ao ["self"] ["self"] (ai lR):=⟨rfl,rfl,rfl,by decide +kernel,rfl,by decide +kernel,by decide +kernel⟩
theorem zb(T:Txt K mg a):aZ P w K mg base cG 1 (a.f 27) (a.d 27) ["self"] (yJ a):=by
 refine T.aR.qT.F.ok yK (fun vs H Q E h=>?_) (fun cdv A outer s H vs Q E hr h=>?_)
 ·obtain⟨p,dx,x,rfl,_⟩:=h;rfl
 ·obtain⟨p,dx,x,rfl,hp,k⟩:=h;refine⟨_,(ag (ay (bO (aK (af (pv 0) rfl) (aK (af (pv 0) rfl) (aK (af (pv 0) rfl) (aK (af (pv 0) rfl) (aK (af (pv 0) rfl) (aK (af (pv 0) rfl) ah))))))))),?_⟩;exact⟨_,rfl,_,_,_,_,_,rfl,hp,T.aR.cl,T.aR.bS,nN,_,rfl,_,_,_,_,_,rfl,hp,T.aR.cl,T.aR.pB,lT,_,rfl,_,_,_,_,_,rfl,hp,T.aR.cl,T.aR.bz,qE,_,rfl,_,_,_,_,_,rfl,hp,T.aR.cl,T.aR.pE,lu,_,rfl,_,_,_,_,_,rfl,hp,T.aR.cl,T.aR.jt,nX,_,rfl,_,_,_,_,_,rfl,hp,T.aR.cl,T.aR.dH,kr,(by show 6≤sizeLine;decide),k⟩
inductive C8(a:Ad)(vs:List V)(H:Hp)(Q:VK):Prop
 |mk(p dx pb db:Addr)(x:Bowl)(b:Ball)(_:vs=[.ref p,.ref pb])(_:GF a H p dx x)(_:bW a H pb db b)(_:∀ H' q dq,a6 H H'→H q=none→GF a H' q dq (N.tm b x)→Q (.ref q) H')
def AJ(a:Ad):Sp:=fun vs H Q _=>C8 a vs H Q
theorem eX:ao ["self","ball","balls","runs","wickets","wides","no_balls"] ["self","ball"] (ai nT):=⟨rfl,rfl,rfl,by decide +kernel,rfl,by decide +kernel,by decide +kernel⟩
theorem Bb(T:Txt K mg a):aZ P w K mg base cG 3 (a.f 28) (a.d 28) ["self","ball"] (AJ a):=by
 refine T.aR.vi.F.ok eX (fun vs H Q E h=>?_) (fun cdv A outer s H vs Q E hr h=>?_)
 ·obtain⟨p,dx,pb,db,x,b,rfl,_⟩:=h;rfl
 ·obtain⟨p,dx,pb,db,x,b,rfl,hp,hb,k⟩:=h;refine⟨_,(ae (aX (i:=2) eX.nd rfl (Or.inl rfl) (bM cN (af (pv 0) rfl) (aU (pv 1) T.Ball.cl T.Ball.dg (eV T) (hr.mono (by decide)) T.Ball.eP.b au (aK (aN rfl T.fn.zg) ah)))) (ae (aX (i:=3) eX.nd rfl (Or.inl rfl) (bM cN (af (pv 0) rfl) (az (pv 1) T.Ball.cl T.Ball.fh (oG T) (hr.mono (by decide)) T.Ball.kx.b .nil au ))) (ae (aX (i:=4) eX.nd rfl (Or.inl rfl) (bM cN (af (pv 0) rfl) (dk (dR (az (pv 1) T.Ball.cl T.Ball.cM (jC T) (hr.mono (by decide)) T.Ball.gi.b .nil au )) aj aj))) (ae (aX (i:=5) eX.nd rfl (Or.inl rfl) (bM cN (af (pv 0) rfl) (aU (pv 1) T.Ball.cl T.Ball.dg (eV T) (hr.mono (by decide)) T.Ball.eP.b au (aK (aN rfl T.fn.xi) ah)))) (ae (aX (i:=6) eX.nd rfl (Or.inl rfl) (bM cN (af (pv 0) rfl) (aU (pv 1) T.Ball.cl T.Ball.dg (eV T) (hr.mono (by decide)) T.Ball.eP.b au (aK (aN rfl T.fn.pz) ah)))) (ag (ay (dh T.aR.vg (oq T) (hr.mono (by decide)) rfl T.aR.AF T.aR.lz.b au (aK (pv 2) (aK (af (pv 0) rfl) (aK (pv 3) (aK (pv 4) (aK (pv 5) (aK (pv 6) ah)))))))))))))),?_⟩;refine⟨_,rfl,_,_,_,_,_,rfl,hp,T.aR.cl,T.aR.bS,nN,_,rfl,_,_,_,rfl,hb,dt,_,_,_,0,rfl,hb,_,_,rfl,rfl,?_⟩;refine⟨_,rfl,_,_,_,_,_,rfl,hp,T.aR.cl,T.aR.bz,qE,_,rfl,_,_,_,rfl,hb,l8,_,_,_,rfl,hb,_,_,rfl,rfl,?_⟩;refine⟨_,rfl,_,_,_,_,_,rfl,hp,T.aR.cl,T.aR.pE,lu,_,rfl,_,_,_,rfl,hb,iN,_,_,_,rfl,hb,_,rfl,(IV (i:=1) (j:=0) ⟨_,_,rfl,rfl,?_⟩)⟩;refine⟨_,rfl,_,_,_,_,_,rfl,hp,T.aR.cl,T.aR.jt,nX,_,rfl,_,_,_,rfl,hb,dt,_,_,_,1,rfl,hb,_,_,rfl,rfl,?_⟩;refine⟨_,rfl,_,_,_,_,_,rfl,hp,T.aR.cl,T.aR.dH,kr,_,rfl,_,_,_,rfl,hb,dt,_,_,_,2,rfl,hb,_,_,rfl,rfl,?_⟩;exact⟨_,rfl,_,rfl,_,_,_,_,_,rfl,hp,T.aR.cl,T.aR.pB,lT,_,rfl,_,rfl,_,rfl,_,rfl,fun q dq hq hdq _=>⟨q,dq,x.balls+N.gx b 0,x.maidens,x.runs+bc b,x.wickets+(if a7 b=true then 1 else 0),x.wides+N.gx b 1,x.noBalls+N.gx b 2,rfl,aa,rfl,k _ q dq (cJ hq hdq) hq aa⟩⟩
inductive vC(a:Ad)(vs:List V)(H:Hp)(Q:VK):Prop
 |mk(p dx:Addr)(x:Bowl)(_:vs=[.ref p])(_:GF a H p dx x)(_:∀ H' q dq,a6 H H'→H q=none→GF a H' q dq (N.mq x)→Q (.ref q) H')
def uY(a:Ad):Sp:=fun vs H Q _=>vC a vs H Q
theorem ue:ao ["self"] ["self"] (ai iz):=⟨rfl,rfl,rfl,by decide +kernel,rfl,by decide +kernel,by decide +kernel⟩
theorem uT(T:Txt K mg a):aZ P w K mg base cG 3 (a.f 29) (a.d 29) ["self"] (uY a):=by
 refine T.aR.ml.F.ok ue (fun vs H Q E h=>?_) (fun cdv A outer s H vs Q E hr h=>?_)
 ·obtain⟨p,dx,x,rfl,_⟩:=h;rfl
 ·obtain⟨p,dx,x,rfl,hp,k⟩:=h;refine⟨_,(ag (ay (dh T.aR.vg (oq T) (hr.mono (by decide)) rfl T.aR.AF T.aR.lz.b au (aK (af (pv 0) rfl) (aK (bM cN (af (pv 0) rfl) aj) (aK (af (pv 0) rfl) (aK (af (pv 0) rfl) (aK (af (pv 0) rfl) (aK (af (pv 0) rfl) ah))))))))),?_⟩;exact⟨_,rfl,_,_,_,_,_,rfl,hp,T.aR.cl,T.aR.bS,nN,_,rfl,_,_,_,_,_,rfl,hp,T.aR.cl,T.aR.pB,lT,_,_,rfl,rfl,_,rfl,_,_,_,_,_,rfl,hp,T.aR.cl,T.aR.bz,qE,_,rfl,_,_,_,_,_,rfl,hp,T.aR.cl,T.aR.pE,lu,_,rfl,_,_,_,_,_,rfl,hp,T.aR.cl,T.aR.jt,nX,_,rfl,_,_,_,_,_,rfl,hp,T.aR.cl,T.aR.dH,kr,fun q dq hq hdq _=>⟨q,dq,x.balls,x.maidens+1,x.runs,x.wickets,x.wides,x.noBalls,rfl,aa,rfl,k _ q dq (cJ hq hdq) hq aa⟩⟩
inductive F7(a:Ad)(vs:List V)(H:Hp)(Q:VK):Prop
 |mk(_:vs=[])(_:∀ H' q dq,a6 H H'→H q=none→GF a H' q dq N.sX→Q (.ref q) H')
def Et(a:Ad):Sp:=fun vs H Q _=>F7 a vs H Q
theorem EN:ao [] [] (ai rR):=⟨rfl,rfl,rfl,by decide +kernel,rfl,by decide +kernel,by decide +kernel⟩
theorem D7(T:Txt K mg a):aZ P w K mg base cG 3 (a.f 30) (a.d 30) [] (Et a):=by
 refine T.fn.rW.F.ok EN (fun vs H Q E h=>?_) (fun cdv A outer s H vs Q E hr h=>?_)
 ·obtain⟨rfl,_⟩:=h;rfl
 ·obtain⟨rfl,k⟩:=h;refine⟨_,(ag (ay (dh T.aR.vg (oq T) (hr.mono (by decide)) rfl T.aR.AF T.aR.lz.b au (aK aj (aK aj (aK aj (aK aj (aK aj (aK aj ah))))))))),?_⟩;exact fun q dq hq hdq _=>⟨q,dq,0,0,0,0,0,0,rfl,aa,rfl,k _ q dq (cJ hq hdq) hq aa⟩
inductive Jq(a:Ad)(vs:List V)(H:Hp)(Q:VK):Prop
 |mk(p dx:Addr)(n0 n1 n2 n3:Nat)(_:vs=[.ref p,.int n0,.int n1,.int n2,.int n3])(_:H p=some (.ins (a.c 3) dx []))(_:Q .non (upd H p (.ins (a.c 3) dx (rH ⟨n0,n1,n2,n3⟩))))
def Hy(a:Ad):Sp:=fun vs H Q _=>Jq a vs H Q
theorem He:ao ["self","bowler","first","balls","runs"] ["self","bowler","first","balls","runs"] (ai vW):=⟨rfl,rfl,rfl,by decide +kernel,rfl,by decide +kernel,by decide +kernel⟩
theorem Av(T:Txt K mg a):aZ P w K mg base cG 1 (a.f 31) (a.d 31) ["self","bowler","first","balls","runs"] (Hy a):=by
 refine T.Over.v8.F.ok He (fun vs H Q E h=>?_) (fun cdv A outer s H vs Q E hr h=>?_)
 ·obtain⟨p,dx,n0,n1,n2,n3,rfl,_⟩:=h;rfl
 ·obtain⟨p,dx,n0,n1,n2,n3,rfl,hp,k⟩:=h;refine⟨_,(ae (aW (pv 0) (pv 1) rfl) (ae (aW (pv 0) (pv 2) rfl) (ae (aW (pv 0) (pv 3) rfl) (ag (aW (pv 0) (pv 4) rfl))))),?_⟩;refine⟨_,rfl,_,rfl,_,_,_,_,rfl,hp,T.Over.cl,T.Over.fV,Nat.lt_of_le_of_lt (Nat.le_refl 0) (by decide),?_⟩;refine⟨_,rfl,_,rfl,_,_,_,_,rfl,aa,T.Over.cl,T.Over.t8,Nat.lt_of_le_of_lt (lp (Nat.le_refl 0)) (by decide),?_⟩;refine⟨_,rfl,_,rfl,_,_,_,_,rfl,aa,T.Over.cl,T.Over.bS,Nat.lt_of_le_of_lt (lp (lp (Nat.le_refl 0))) (by decide),?_⟩;refine⟨_,rfl,_,rfl,_,_,_,_,rfl,aa,T.Over.cl,T.Over.bz,Nat.lt_of_le_of_lt (lp (lp (lp (Nat.le_refl 0)))) (by decide),?_⟩;have e:(aw "runs" (.int n3) (aw "balls" (.int n2) (aw "first" (.int n1) (aw "bowler" (.int n0) []))))=rH ⟨n0,n1,n2,n3⟩:=by kernel_rfl
  have e2:=congrArg (fun fs=>upd H p (.ins (a.c 3) dx fs)) e;simp only[jz];exact Eq.mp (congrArg (Q .non) e2.symm) k
inductive GW(a:Ad)(vs:List V)(H:Hp)(Q:VK):Prop
 |mk(p dx pb db:Addr)(x:N.Over)(b:Ball)(_:vs=[.ref p,.ref pb])(_:NM a H p dx x)(_:bW a H pb db b)(_:∀ H' q dq,a6 H H'→H q=none→NM a H' q dq (N.cY b x)→Q (.ref q) H')
def Fm(a:Ad):Sp:=fun vs H Q _=>GW a vs H Q
theorem FJ:ao ["self","ball"] ["self","ball"] (ai tP):=⟨rfl,rfl,rfl,by decide +kernel,rfl,by decide +kernel,by decide +kernel⟩
theorem FY(T:Txt K mg a):aZ P w K mg base cG 3 (a.f 32) (a.d 32) ["self","ball"] (Fm a):=by
 refine T.Over.zx.F.ok FJ (fun vs H Q E h=>?_) (fun cdv A outer s H vs Q E hr h=>?_)
 ·obtain⟨p,dx,pb,db,x,b,rfl,_⟩:=h;rfl
 ·obtain⟨p,dx,pb,db,x,b,rfl,hp,hb,k⟩:=h;refine⟨_,(ag (ay (dh T.Over.vg (Av T) (hr.mono (by decide)) rfl T.Over.AF T.Over.v8.b au (aK (af (pv 0) rfl) (aK (af (pv 0) rfl) (aK (bM cN (af (pv 0) rfl) (aU (pv 1) T.Ball.cl T.Ball.dg (eV T) (hr.mono (by decide)) T.Ball.eP.b au (aK (aN rfl T.fn.zg) ah))) (aK (bM cN (af (pv 0) rfl) (az (pv 1) T.Ball.cl T.Ball.fh (oG T) (hr.mono (by decide)) T.Ball.kx.b .nil au )) ah))))))),?_⟩;exact⟨_,rfl,_,_,_,_,_,rfl,hp,T.Over.cl,T.Over.fV,jZ,_,rfl,_,_,_,_,_,rfl,hp,T.Over.cl,T.Over.t8,oZ,_,rfl,_,_,_,_,_,rfl,hp,T.Over.cl,T.Over.bS,zZ,_,rfl,_,_,_,rfl,hb,dt,_,_,_,0,rfl,hb,_,_,rfl,rfl,_,rfl,_,_,_,_,_,rfl,hp,T.Over.cl,T.Over.bz,BU,_,rfl,_,_,_,rfl,hb,l8,_,_,_,rfl,hb,_,_,rfl,rfl,fun q dq hq hdq _=>⟨q,dq,x.bowler,x.first,x.balls+N.gx b 0,x.runs+bc b,rfl,aa,rfl,k _ q dq (cJ hq hdq) hq aa⟩⟩
inductive GO(a:Ad)(vs:List V)(H:Hp)(Q:VK):Prop
 |mk(p dx:Addr)(n0 n1 n2 n3:Nat)(_:vs=[.ref p,.int n0,.int n1,.int n2,.int n3])(_:H p=some (.ins (a.c 4) dx []))(_:Q .non (upd H p (.ins (a.c 4) dx (fK ⟨n0,n1,n2,n3⟩))))
def FQ(a:Ad):Sp:=fun vs H Q _=>GO a vs H Q
theorem FT:ao ["self","stayed","came","runs","balls"] ["self","stayed","came","runs","balls"] (ai uO):=⟨rfl,rfl,rfl,by decide +kernel,rfl,by decide +kernel,by decide +kernel⟩
theorem r9(T:Txt K mg a):aZ P w K mg base cG 1 (a.f 33) (a.d 33) ["self","stayed","came","runs","balls"] (FQ a):=by
 refine T.Stand.oQ.F.ok FT (fun vs H Q E h=>?_) (fun cdv A outer s H vs Q E hr h=>?_)
 ·obtain⟨p,dx,n0,n1,n2,n3,rfl,_⟩:=h;rfl
 ·obtain⟨p,dx,n0,n1,n2,n3,rfl,hp,k⟩:=h;refine⟨_,(ae (aW (pv 0) (pv 1) rfl) (ae (aW (pv 0) (pv 2) rfl) (ae (aW (pv 0) (pv 3) rfl) (ag (aW (pv 0) (pv 4) rfl))))),?_⟩;refine⟨_,rfl,_,rfl,_,_,_,_,rfl,hp,T.Stand.cl,T.Stand.wJ,Nat.lt_of_le_of_lt (Nat.le_refl 0) (by decide),?_⟩;refine⟨_,rfl,_,rfl,_,_,_,_,rfl,aa,T.Stand.cl,T.Stand.EG,Nat.lt_of_le_of_lt (lp (Nat.le_refl 0)) (by decide),?_⟩;refine⟨_,rfl,_,rfl,_,_,_,_,rfl,aa,T.Stand.cl,T.Stand.bz,Nat.lt_of_le_of_lt (lp (lp (Nat.le_refl 0))) (by decide),?_⟩;refine⟨_,rfl,_,rfl,_,_,_,_,rfl,aa,T.Stand.cl,T.Stand.bS,Nat.lt_of_le_of_lt (lp (lp (lp (Nat.le_refl 0)))) (by decide),?_⟩;have e:(aw "balls" (.int n3) (aw "runs" (.int n2) (aw "came" (.int n1) (aw "stayed" (.int n0) []))))=fK ⟨n0,n1,n2,n3⟩:=by kernel_rfl
  have e2:=congrArg (fun fs=>upd H p (.ins (a.c 4) dx fs)) e;simp only[jz];exact Eq.mp (congrArg (Q .non) e2.symm) k
inductive Cm(a:Ad)(vs:List V)(H:Hp)(Q:VK):Prop
 |mk(p dx:Addr)(x:Sh11.Stand)(_:vs=[.ref p])(_:Hn a H p dx x)(_:∀ l,H l=none→Q (.ref l) (upd H l (.lst ((N.xH x).map V.int))))
def A6(a:Ad):Sp:=fun vs H Q _=>Cm a vs H Q
theorem Ba:ao ["self"] ["self"] (ai oj):=⟨rfl,rfl,rfl,by decide +kernel,rfl,by decide +kernel,by decide +kernel⟩
theorem Bd(T:Txt K mg a):aZ P w K mg base cG 1 (a.f 34) (a.d 34) ["self"] (A6 a):=by
 refine T.Stand.vm.F.ok Ba (fun vs H Q E h=>?_) (fun cdv A outer s H vs Q E hr h=>?_)
 ·obtain⟨p,dx,x,rfl,_⟩:=h;rfl
 ·obtain⟨p,dx,x,rfl,hp,k⟩:=h;refine⟨_,(ag (ay (bO (aK (af (pv 0) rfl) (aK (af (pv 0) rfl) (aK (af (pv 0) rfl) (aK (af (pv 0) rfl) ah))))))),?_⟩;exact⟨_,rfl,_,_,_,_,_,rfl,hp,T.Stand.cl,T.Stand.wJ,w8,_,rfl,_,_,_,_,_,rfl,hp,T.Stand.cl,T.Stand.EG,zO,_,rfl,_,_,_,_,_,rfl,hp,T.Stand.cl,T.Stand.bz,zP,_,rfl,_,_,_,_,_,rfl,hp,T.Stand.cl,T.Stand.bS,yp,(by show 4≤sizeLine;decide),k⟩
inductive Fy(a:Ad)(vs:List V)(H:Hp)(Q:VK):Prop
 |mk(p dx pb db:Addr)(x:Sh11.Stand)(b:Ball)(_:vs=[.ref p,.ref pb])(_:Hn a H p dx x)(_:bW a H pb db b)(_:∀ H' q dq,a6 H H'→H q=none→Hn a H' q dq (N.mC b x)→Q (.ref q) H')
def DB(a:Ad):Sp:=fun vs H Q _=>Fy a vs H Q
theorem ES:ao ["self","ball"] ["self","ball"] (ai rQ):=⟨rfl,rfl,rfl,by decide +kernel,rfl,by decide +kernel,by decide +kernel⟩
theorem DO(T:Txt K mg a):aZ P w K mg base cG 3 (a.f 35) (a.d 35) ["self","ball"] (DB a):=by
 refine T.Stand.yB.F.ok ES (fun vs H Q E h=>?_) (fun cdv A outer s H vs Q E hr h=>?_)
 ·obtain⟨p,dx,pb,db,x,b,rfl,_⟩:=h;rfl
 ·obtain⟨p,dx,pb,db,x,b,rfl,hp,hb,k⟩:=h;refine⟨_,(ag (ay (dh T.Stand.vg (r9 T) (hr.mono (by decide)) rfl T.Stand.AF T.Stand.oQ.b au (aK (af (pv 0) rfl) (aK (af (pv 0) rfl) (aK (bM cN (af (pv 0) rfl) (az (pv 1) T.Ball.cl T.Ball.eh (jo T) (hr.mono (by decide)) T.Ball.hX.b .nil au )) (aK (bM cN (af (pv 0) rfl) (aU (pv 1) T.Ball.cl T.Ball.dg (eV T) (hr.mono (by decide)) T.Ball.eP.b au (aK (aN rfl T.fn.zg) ah))) ah))))))),?_⟩;exact⟨_,rfl,_,_,_,_,_,rfl,hp,T.Stand.cl,T.Stand.wJ,w8,_,rfl,_,_,_,_,_,rfl,hp,T.Stand.cl,T.Stand.EG,zO,_,rfl,_,_,_,_,_,rfl,hp,T.Stand.cl,T.Stand.bz,zP,_,rfl,_,_,_,rfl,hb,g7,_,_,_,rfl,hb,_,_,rfl,rfl,_,rfl,_,_,_,_,_,rfl,hp,T.Stand.cl,T.Stand.bS,yp,_,rfl,_,_,_,rfl,hb,dt,_,_,_,0,rfl,hb,_,_,rfl,rfl,fun q dq hq hdq _=>⟨q,dq,x.one,x.two,x.runs+cF b,x.balls+N.gx b 0,rfl,aa,rfl,k _ q dq (cJ hq hdq) hq aa⟩⟩
inductive JF(a:Ad)(vs:List V)(H:Hp)(Q:VK):Prop
 |mk(p dx:Addr)(n0 n1 n2 n3 n4 n5 n6:Nat)(_:vs=[.ref p,.int n0,.int n1,.int n2,.int n3,.int n4,.int n5,.int n6])(_:H p=some (.ins (a.c 5) dx []))(_:Q .non (upd H p (.ins (a.c 5) dx (iy ⟨n0,n1,n2,n3,n4,n5,n6⟩))))
def Hr(a:Ad):Sp:=fun vs H Q _=>JF a vs H Q
theorem Hc:ao ["self","runs","balls","wides","no_balls","byes","leg_byes","penalties"] ["self","runs","balls","wides","no_balls","byes","leg_byes","penalties"] (ai wH):=⟨rfl,rfl,rfl,by decide +kernel,rfl,by decide +kernel,by decide +kernel⟩
theorem vb(T:Txt K mg a):aZ P w K mg base cG 1 (a.f 36) (a.d 36) ["self","runs","balls","wides","no_balls","byes","leg_byes","penalties"] (Hr a):=by
 refine T.bB.rp.F.ok Hc (fun vs H Q E h=>?_) (fun cdv A outer s H vs Q E hr h=>?_)
 ·obtain⟨p,dx,n0,n1,n2,n3,n4,n5,n6,rfl,_⟩:=h;rfl
 ·obtain⟨p,dx,n0,n1,n2,n3,n4,n5,n6,rfl,hp,k⟩:=h;refine⟨_,(ae (aW (pv 0) (pv 1) rfl) (ae (aW (pv 0) (pv 2) rfl) (ae (aW (pv 0) (pv 3) rfl) (ae (aW (pv 0) (pv 4) rfl) (ae (aW (pv 0) (pv 5) rfl) (ae (aW (pv 0) (pv 6) rfl) (ag (aW (pv 0) (pv 7) rfl)))))))),?_⟩;refine⟨_,rfl,_,rfl,_,_,_,_,rfl,hp,T.bB.cl,T.bB.bz,Nat.lt_of_le_of_lt (Nat.le_refl 0) (by decide),?_⟩;refine⟨_,rfl,_,rfl,_,_,_,_,rfl,aa,T.bB.cl,T.bB.bS,Nat.lt_of_le_of_lt (lp (Nat.le_refl 0)) (by decide),?_⟩;refine⟨_,rfl,_,rfl,_,_,_,_,rfl,aa,T.bB.cl,T.bB.jt,Nat.lt_of_le_of_lt (lp (lp (Nat.le_refl 0))) (by decide),?_⟩;refine⟨_,rfl,_,rfl,_,_,_,_,rfl,aa,T.bB.cl,T.bB.dH,Nat.lt_of_le_of_lt (lp (lp (lp (Nat.le_refl 0)))) (by decide),?_⟩;refine⟨_,rfl,_,rfl,_,_,_,_,rfl,aa,T.bB.cl,T.bB.AX,Nat.lt_of_le_of_lt (lp (lp (lp (lp (Nat.le_refl 0))))) (by decide),?_⟩;refine⟨_,rfl,_,rfl,_,_,_,_,rfl,aa,T.bB.cl,T.bB.mJ,Nat.lt_of_le_of_lt (lp (lp (lp (lp (lp (Nat.le_refl 0)))))) (by decide),?_⟩;refine⟨_,rfl,_,rfl,_,_,_,_,rfl,aa,T.bB.cl,T.bB.kW,Nat.lt_of_le_of_lt (lp (lp (lp (lp (lp (lp (Nat.le_refl 0))))))) (by decide),?_⟩;have e:(aw "penalties" (.int n6) (aw "leg_byes" (.int n5) (aw "byes" (.int n4) (aw "no_balls" (.int n3) (aw "wides" (.int n2) (aw "balls" (.int n1) (aw "runs" (.int n0) [])))))))=iy ⟨n0,n1,n2,n3,n4,n5,n6⟩:=by kernel_rfl
  have e2:=congrArg (fun fs=>upd H p (.ins (a.c 5) dx fs)) e;simp only[jz];exact Eq.mp (congrArg (Q .non) e2.symm) k
inductive Iv(a:Ad)(vs:List V)(H:Hp)(Q:VK):Prop
 |mk(p dx pb db:Addr)(x:N.bB)(b:Ball)(_:vs=[.ref p,.ref pb])(_:G8 a H p dx x)(_:bW a H pb db b)(_:∀ H' q dq,a6 H H'→H q=none→G8 a H' q dq (N.gy b x)→Q (.ref q) H')
def FV(a:Ad):Sp:=fun vs H Q _=>Iv a vs H Q
theorem f9:ao ["self","ball","runs","balls","wides","no_balls","byes","leg_byes"] ["self","ball"] (ai tX):=⟨rfl,rfl,rfl,by decide +kernel,rfl,by decide +kernel,by decide +kernel⟩
theorem FW(T:Txt K mg a):aZ P w K mg base cG 3 (a.f 37) (a.d 37) ["self","ball"] (FV a):=by
 refine T.bB.zB.F.ok f9 (fun vs H Q E h=>?_) (fun cdv A outer s H vs Q E hr h=>?_)
 ·obtain⟨p,dx,pb,db,x,b,rfl,_⟩:=h;rfl
 ·obtain⟨p,dx,pb,db,x,b,rfl,hp,hb,k⟩:=h;refine⟨_,(ae (aX (i:=2) f9.nd rfl (Or.inl rfl) (bM cN (af (pv 0) rfl) (az (pv 1) T.Ball.cl T.Ball.eh (jo T) (hr.mono (by decide)) T.Ball.hX.b .nil au ))) (ae (aX (i:=3) f9.nd rfl (Or.inl rfl) (bM cN (af (pv 0) rfl) (aU (pv 1) T.Ball.cl T.Ball.dg (eV T) (hr.mono (by decide)) T.Ball.eP.b au (aK (aN rfl T.fn.zg) ah)))) (ae (aX (i:=4) f9.nd rfl (Or.inl rfl) (bM cN (af (pv 0) rfl) (bM NT (aU (pv 1) T.Ball.cl T.Ball.dg (eV T) (hr.mono (by decide)) T.Ball.eP.b au (aK (aN rfl T.fn.xi) ah)) (az (pv 1) T.Ball.cl T.Ball.eh (jo T) (hr.mono (by decide)) T.Ball.hX.b .nil au )))) (ae (aX (i:=5) f9.nd rfl (Or.inl rfl) (bM cN (af (pv 0) rfl) (aU (pv 1) T.Ball.cl T.Ball.dg (eV T) (hr.mono (by decide)) T.Ball.eP.b au (aK (aN rfl T.fn.pz) ah)))) (ae (aX (i:=6) f9.nd rfl (Or.inl rfl) (bM cN (af (pv 0) rfl) (aU (pv 1) T.Ball.cl T.Ball.fI (mv T) (hr.mono (by decide)) T.Ball.ke.b au (aK (aN rfl T.fn.K3) ah)))) (ae (aX (i:=7) f9.nd rfl (Or.inl rfl) (bM cN (af (pv 0) rfl) (aU (pv 1) T.Ball.cl T.Ball.fI (mv T) (hr.mono (by decide)) T.Ball.ke.b au (aK (aN rfl T.fn.uJ) ah)))) (ag (ay (dh T.bB.vg (vb T) (hr.mono (by decide)) rfl T.bB.AF T.bB.rp.b au (aK (pv 2) (aK (pv 3) (aK (pv 4) (aK (pv 5) (aK (pv 6) (aK (pv 7) (aK (af (pv 0) rfl) ah)))))))))))))))),?_⟩;refine⟨_,rfl,_,_,_,_,_,rfl,hp,T.bB.cl,T.bB.bz,kY,_,rfl,_,_,_,rfl,hb,g7,_,_,_,rfl,hb,_,_,rfl,rfl,?_⟩;refine⟨_,rfl,_,_,_,_,_,rfl,hp,T.bB.cl,T.bB.bS,lD,_,rfl,_,_,_,rfl,hb,dt,_,_,_,0,rfl,hb,_,_,rfl,rfl,?_⟩;have t1:N.gx b 1≤1:=by unfold N.gx;split<;>omega
  refine⟨_,rfl,_,_,_,_,_,rfl,hp,T.bB.cl,T.bB.jt,um,_,rfl,_,_,_,rfl,hb,dt,_,_,_,1,rfl,hb,_,rfl,_,_,_,rfl,hb,g7,_,_,_,rfl,hb,_,_,rfl,rfl,.inl ⟨by omega,by omega⟩,_,_,rfl,rfl,?_⟩;refine⟨_,rfl,_,_,_,_,_,rfl,hp,T.bB.cl,T.bB.dH,nO,_,rfl,_,_,_,rfl,hb,dt,_,_,_,2,rfl,hb,_,_,rfl,rfl,?_⟩;refine⟨_,rfl,_,_,_,_,_,rfl,hp,T.bB.cl,T.bB.AX,xm,_,rfl,_,_,_,rfl,hb,ko,_,_,_,1,rfl,hb,_,_,rfl,rfl,?_⟩;refine⟨_,rfl,_,_,_,_,_,rfl,hp,T.bB.cl,T.bB.mJ,oh,_,rfl,_,_,_,rfl,hb,ko,_,_,_,2,rfl,hb,_,_,rfl,rfl,?_⟩;exact⟨_,rfl,_,rfl,_,rfl,_,rfl,_,rfl,_,rfl,_,rfl,_,_,_,_,_,rfl,hp,T.bB.cl,T.bB.kW,mK,fun q dq hq hdq _=>⟨q,dq,x.runs+cF b,x.balls+N.gx b 0,x.wides+N.gx b 1*cF b,x.noBalls+N.gx b 2,x.byes+N.ud b 1,x.legByes+N.ud b 2,x.qO,rfl,aa,rfl,k _ q dq (cJ hq hdq) hq aa⟩⟩
inductive vN(a:Ad)(vs:List V)(H:Hp)(Q:VK):Prop
 |mk(p dx:Addr)(x:N.bB)(n:Nat)(_:vs=[.ref p,.int n])(_:G8 a H p dx x)(_:∀ H' q dq,a6 H H'→H q=none→G8 a H' q dq (N.v7 n x)→Q (.ref q) H')
def uE(a:Ad):Sp:=fun vs H Q _=>vN a vs H Q
theorem lq:ao ["self","runs","penalties"] ["self","runs"] (ai ip):=⟨rfl,rfl,rfl,by decide +kernel,rfl,by decide +kernel,by decide +kernel⟩
theorem uS(T:Txt K mg a):aZ P w K mg base cG 3 (a.f 38) (a.d 38) ["self","runs"] (uE a):=by
 refine T.bB.mi.F.ok lq (fun vs H Q E h=>?_) (fun cdv A outer s H vs Q E hr h=>?_)
 ·obtain⟨p,dx,x,n,rfl,_⟩:=h;rfl
 ·obtain⟨p,dx,x,n,rfl,hp,k⟩:=h;refine⟨_,(ae (aX (i:=2) lq.nd rfl (Or.inl rfl) (bM cN (af (pv 0) rfl) (pv 1))) (ag (ay (dh T.bB.vg (vb T) (hr.mono (by decide)) rfl T.bB.AF T.bB.rp.b au (aK (bM cN (af (pv 0) rfl) (pv 1)) (aK (af (pv 0) rfl) (aK (af (pv 0) rfl) (aK (af (pv 0) rfl) (aK (af (pv 0) rfl) (aK (af (pv 0) rfl) (aK (pv 2) ah))))))))))),?_⟩;refine⟨_,rfl,_,_,_,_,_,rfl,hp,T.bB.cl,T.bB.kW,mK,_,rfl,_,_,rfl,rfl,?_⟩;exact⟨_,rfl,_,_,_,_,_,rfl,hp,T.bB.cl,T.bB.bz,kY,_,rfl,_,_,rfl,rfl,_,rfl,_,_,_,_,_,rfl,hp,T.bB.cl,T.bB.bS,lD,_,rfl,_,_,_,_,_,rfl,hp,T.bB.cl,T.bB.jt,um,_,rfl,_,_,_,_,_,rfl,hp,T.bB.cl,T.bB.dH,nO,_,rfl,_,_,_,_,_,rfl,hp,T.bB.cl,T.bB.AX,xm,_,rfl,_,_,_,_,_,rfl,hp,T.bB.cl,T.bB.mJ,oh,_,rfl,fun q dq hq hdq _=>⟨q,dq,x.runs+n,x.balls,x.wides,x.noBalls,x.byes,x.legByes,x.qO+n,rfl,aa,rfl,k _ q dq (cJ hq hdq) hq aa⟩⟩
end
end Sb
namespace Sb
open PySem L2
noncomputable abbrev Tag:=Addr→Nat
noncomputable def cn(t:Tag)(p:Addr)(n:Nat):Tag:=fun b=>if b=p then n else t b
theorem ck{t:Tag}{p:Addr}{n:Nat}:cn t p n p=n:=if_pos rfl
theorem eR{t:Tag}{p b:Addr}{n:Nat}(h:b≠p):cn t p n b=t b:=if_neg h
def Fr(H:Hp)(t:Tag):Prop:=∀ b,H b=none→t b=0
structure Step(R:Nat→Prop)(H:Hp)(t:Tag)(H':Hp)(t':Tag):Prop where
 keep:∀ b o,H b=some o→¬R (t b)→H' b=some o
 tag:∀ b,H b≠none→t' b=t b
 live:∀ b,H b≠none→H' b≠none
 fr:Fr H t→Fr H' t'
theorem bU{H:Hp}{b:Addr}{o:HO}(h:H b=some o):H b≠none:=by rw[h];simp
theorem Step.refl{R:Nat→Prop}{H:Hp}{t:Tag}:Step R H t H t:=⟨fun _ _ h _=>h,fun _ _=>rfl,fun _ h=>h,fun h=>h⟩
theorem Step.trans{R:Nat→Prop}{H H1 H2:Hp}{t t1 t2:Tag}(a:Step R H t H1 t1)(b:Step R H1 t1 H2 t2):Step R H t H2 t2:=
 ⟨fun c o h n=>b.keep c o (a.keep c o h n) (by rw[a.tag c (bU h)];exact n),fun c h=>(b.tag c (a.live c h)).trans (a.tag c h),fun c h=>b.live c (a.live c h),fun h=>b.fr (a.fr h)⟩
theorem Step.mono{R R':Nat→Prop}{H H':Hp}{t t':Tag}(s:Step R H t H' t')(h:∀ n,R n→R' n):Step R' H t H' t':=⟨fun b o e n=>s.keep b o e fun z=>n (h _ z),s.tag,s.live,s.fr⟩
theorem Step.same{R:Nat→Prop}{H H':Hp}{t:Tag}(s:a6 H H'):Step R H t H' t:=
 ⟨fun b o h _=>s b o h,fun _ _=>rfl,fun b h=>by
  cases e:H b with
  |none=>exact absurd e h
  |some o=>rw[s b o e];simp,fun h b e=>h b (s.free e)⟩
theorem Step.upd{R:Nat→Prop}{H:Hp}{t:Tag}{p:Addr}{o o':HO}(hp:H p=some o)(hr:R (t p)):Step R H t (L2.upd H p o') t:=by
 refine⟨fun b u h n=>?_,fun _ _=>rfl,fun b h=>?_,fun h b e=>?_⟩
 ·have:b≠p:=fun e=>n (by rw[e];exact hr)
  rw[ax this];exact h
 ·by_cases e:b=p
  ·subst e;rw[aa];simp
  ·rw[ax e];exact h
 ·by_cases q:b=p
  ·subst q;rw[aa]at e;cases e
  ·rw[ax q]at e;exact h b e
theorem Step.new{R:Nat→Prop}{H:Hp}{t:Tag}{p:Addr}{o:HO}(n:Nat)(hp:H p=none):Step R H t (L2.upd H p o) (cn t p n):=by
 refine⟨fun b u h _=>?_,fun b h=>?_,fun b h=>?_,fun h b e=>?_⟩
 ·rw[ax (aQ h hp)];exact h
 ·exact eR fun e=>h (by rw[e];exact hp)
 ·have:b≠p:=fun e=>h (by rw[e];exact hp)
  rw[ax this];exact h
 ·by_cases q:b=p
  ·subst q;rw[aa]at e;cases e
  ·rw[ax q]at e;rw[eR q];exact h b e
theorem Step.ei{R:Nat→Prop}{H H':Hp}{t t':Tag}(s:Step R H t H' t')(h0:¬R 0){b:Addr}{o:HO}(h:H b=some o)(ht:t b=0):H' b=some o∧t' b=0:=
 ⟨s.keep b o h (by rw[ht];exact h0),(s.tag b (bU h)).trans ht⟩
theorem QN{t:Tag}{x y:Addr}{m n:Nat}(hx:t x=m)(hy:t y=n)(h:m≠n):x≠y:=fun e=>h (by rw[←hx,←hy,e])
structure Objs{α:Type}(O:α→HO→Prop)(H:Hp)(t:Tag)(l:Addr)(ps:List Addr)(xs:List α):Prop where
 lst:H l=some (.lst (ps.map V.ref))
 len:ps.length=xs.length
 at_:∀(j:Nat)(p:Addr)(x:α),ps[j]?=some p→xs[j]?=some x→t p=0∧∃ o,H p=some o∧O x o
theorem Objs.step{α:Type}{O:α→HO→Prop}{H H':Hp}{t t':Tag}{l:Addr}{ps:List Addr}{xs:List α}{R:Nat→Prop}(h:Objs O H t l ps xs)(s:Step R H t H' t')(h0:¬R 0)(hl:H' l=H l):Objs O H' t' l ps xs:=by
 refine⟨by rw[hl];exact h.lst,h.len,fun j p x hp hx=>?_⟩;obtain⟨ht,o,ho,hO⟩:=h.at_ j p x hp hx;obtain⟨a,b⟩:=s.ei h0 ho ht;exact⟨b,o,a,hO⟩
theorem Objs.get{α:Type}{O:α→HO→Prop}{H:Hp}{t:Tag}{l:Addr}{ps:List Addr}{xs:List α}(h:Objs O H t l ps xs){j:Nat}{x:α}(hx:xs[j]?=some x):∃ p o,ps[j]?=some p∧t p=0∧H p=some o∧O x o:=by
 have hj:j<ps.length:=by rw[h.len];exact (List.getElem?_eq_some_iff.mp hx).1
 obtain⟨ht,o,ho,hO⟩:=h.at_ j ps[j] x (List.getElem?_eq_getElem hj) hx;exact⟨ps[j],o,List.getElem?_eq_getElem hj,ht,ho,hO⟩
theorem fe{ps:List Addr}{j:Nat}{p:Addr}(h:ps[j]?=some p):(ps.map V.ref)[j]?=some (V.ref p):=by rw[List.getElem?_map,h];rfl
theorem Objs.set{α:Type}{O:α→HO→Prop}{H:Hp}{t:Tag}{l:Addr}{ps:List Addr}{xs:List α}(h:Objs O H t l ps xs){j:Nat}{q:Addr}{x:α}{o:HO}(hj:j<xs.length)(ht:t q=0)(hl:t l≠0)(hq:H q=some o)(hO:O x o) :
  Objs O (upd H l (.lst ((ps.map V.ref).set j (.ref q)))) t l (ps.set j q) (xs.set j x):=by
 refine⟨by rw[aa,List.map_set],by simp[h.len],fun i p y hp hy=>?_⟩;by_cases e:i=j
 ·subst e;rw[List.getElem?_set_self (by rw[h.len];exact hj)]at hp;rw[List.getElem?_set_self hj]at hy;cases hp;cases hy;exact⟨ht,o,by rw[ax (fun e=>hl (by rw[←e];exact ht))];exact hq,hO⟩
 ·rw[List.getElem?_set_ne (Ne.symm e)]at hp hy;obtain⟨a,o',b,c⟩:=h.at_ i p y hp hy;exact⟨a,o',by rw[ax (fun e=>hl (by rw[←e];exact a))];exact b,c⟩
theorem Objs.app{α:Type}{O:α→HO→Prop}{H:Hp}{t:Tag}{l:Addr}{ps:List Addr}{xs:List α}(h:Objs O H t l ps xs){q:Addr}{x:α}{o:HO}(ht:t q=0)(hl:t l≠0)(hq:H q=some o)(hO:O x o) :
  Objs O (upd H l (.lst (ps.map V.ref++[.ref q]))) t l (ps++[q]) (xs++[x]):=by
 refine⟨by rw[aa,List.map_append];rfl,by simp[h.len],fun i p y hp hy=>?_⟩;by_cases e:i<xs.length
 ·rw[List.getElem?_append_left (by rw[h.len];exact e)]at hp;rw[List.getElem?_append_left e]at hy;obtain⟨a,o',b,c⟩:=h.at_ i p y hp hy;exact⟨a,o',by rw[ax (fun e=>hl (by rw[←e];exact a))];exact b,c⟩
 ·have hi:i=xs.length:=by
   have:=(List.getElem?_eq_some_iff.mp hy).1;simp at this;omega
  subst hi;have e1:x=y:=by simpa using hy
  have e2:q=p:=by rw[←h.len]at hp;simpa using hp
  subst e1 e2;exact⟨ht,o,by rw[ax (fun e=>hl (by rw[←e];exact ht))];exact hq,hO⟩
noncomputable def strOf(b:Sh11.Bytes):Str:=⟨(b.map UInt8.toNat).toArray⟩
def JB(a:Ad)(x:Sh11.Bat)(o:HO):Prop:=∃ dx,o=.ins (a.c 1) dx (dC x)
def Jz(a:Ad)(x:Sh11.Bowl)(o:HO):Prop:=∃ dx,o=.ins (a.c 2) dx (dY x)
def KR(a:Ad)(x:N.Over)(o:HO):Prop:=∃ dx,o=.ins (a.c 3) dx (rH x)
def Ie(a:Ad)(x:Sh11.Stand)(o:HO):Prop:=∃ dx,o=.ins (a.c 4) dx (fK x)
def JR(a:Ad)(x:N.bB)(o:HO):Prop:=∃ dx,o=.ins (a.c 5) dx (iy x)
def Lh(x:Sh11.Fall)(o:HO):Prop:=o=.tup ((N.zd x).map V.int)
structure cO where
 p:Addr
 dx:Addr
 ends:Addr
 sums:Addr
 bats:Addr
 aI:Addr
 overs:Addr
 told:Addr
 falls:Addr
 stands:Addr
 bs:List Addr
 fs:List Addr
 os:List Addr
 ls:List Addr
 ss:List Addr
noncomputable def aC(A:cO)(n:N.ak):List (Str×V):=[("side",.int n.side),("over_length",.int n.len),("ended",.int n.ended),("ends",.ref A.ends),("sums",.ref A.sums),("batters",.ref A.bats),("figures",.ref A.aI),("overs",.ref A.overs),("told",.ref A.told),("falls",.ref A.falls),("stands",.ref A.stands)]
section
variable{A:cO}{n:N.ak}
theorem dW:(aC A n).lookup ("side":Str)=some (.int n.side):=by kernel_rfl
theorem vI:(aC A n).lookup ("over_length":Str)=some (.int n.len):=by kernel_rfl
theorem nV:(aC A n).lookup ("ended":Str)=some (.int n.ended):=by kernel_rfl
theorem bh:(aC A n).lookup ("ends":Str)=some (.ref A.ends):=by kernel_rfl
theorem di:(aC A n).lookup ("sums":Str)=some (.ref A.sums):=by kernel_rfl
theorem bq:(aC A n).lookup ("batters":Str)=some (.ref A.bats):=by kernel_rfl
theorem d8:(aC A n).lookup ("figures":Str)=some (.ref A.aI):=by kernel_rfl
theorem a9:(aC A n).lookup ("overs":Str)=some (.ref A.overs):=by kernel_rfl
theorem fi:(aC A n).lookup ("told":Str)=some (.ref A.told):=by kernel_rfl
theorem hV:(aC A n).lookup ("falls":Str)=some (.ref A.falls):=by kernel_rfl
theorem dJ:(aC A n).lookup ("stands":Str)=some (.ref A.stands):=by kernel_rfl
theorem d4:(aC A n).lookup ("give_place":Str)=none:=by kernel_rfl
theorem nu:(aC A n).lookup ("been_in":Str)=none:=by kernel_rfl
theorem fF:(aC A n).lookup ("wickets_down":Str)=none:=by kernel_rfl
theorem bY:(aC A n).lookup ("has_empty_end":Str)=none:=by kernel_rfl
theorem sj:(aC A n).lookup ("may_come_in":Str)=none:=by kernel_rfl
theorem fC:(aC A n).lookup ("somebody_may_come_in":Str)=none:=by kernel_rfl
theorem jA:(aC A n).lookup ("somebody_has_not_been_in":Str)=none:=by kernel_rfl
theorem xa:(aC A n).lookup ("come_in":Str)=none:=by kernel_rfl
theorem cD:(aC A n).lookup ("over_goes_on":Str)=none:=by kernel_rfl
theorem gW:(aC A n).lookup ("who_bowls":Str)=none:=by kernel_rfl
theorem nF:(aC A n).lookup ("bowled_last_over":Str)=none:=by kernel_rfl
theorem vx:(aC A n).lookup ("overs_of":Str)=none:=by kernel_rfl
theorem sL:(aC A n).lookup ("start_over":Str)=none:=by kernel_rfl
theorem cQ:(aC A n).lookup ("has_whole_overs":Str)=none:=by kernel_rfl
theorem uK:(aC A n).lookup ("over_text":Str)=none:=by kernel_rfl
theorem gc:(aC A n).lookup ("change_ends":Str)=none:=by kernel_rfl
theorem vP:(aC A n).lookup ("deliver":Str)=none:=by kernel_rfl
theorem qN:(aC A n).lookup ("move_batters":Str)=none:=by kernel_rfl
theorem rT:(aC A n).lookup ("take_wicket":Str)=none:=by kernel_rfl
theorem iF:(aC A n).lookup ("send_off":Str)=none:=by kernel_rfl
theorem sf:(aC A n).lookup ("finish_over":Str)=none:=by kernel_rfl
theorem yh:(aC A n).lookup ("retire":Str)=none:=by kernel_rfl
theorem jl:(aC A n).lookup ("add_penalties":Str)=none:=by kernel_rfl
theorem vA:(aC A n).lookup ("snapshot":Str)=none:=by kernel_rfl
theorem xA:(aC A n).lookup ("restore":Str)=none:=by kernel_rfl
theorem BD(k:Nat):aw "ended" (.int k) (aC A n)=aC A { n with ended:=k }:=by kernel_rfl
theorem Ej(q:Addr)(s:N.bB):aw "sums" (.ref q) (aC A n)=aC { A with sums:=q } { n with sums:=s }:=by kernel_rfl
theorem Nf(q:Addr)(ps:List Addr):aw "batters" (.ref q) (aC A n)=aC { A with bats:=q,bs:=ps } n:=by kernel_rfl
theorem Ow(q:Addr)(ps:List Addr):aw "figures" (.ref q) (aC A n)=aC { A with aI:=q,fs:=ps } n:=by kernel_rfl
theorem bu:(aC A n).length<1000:=by show 11<1000;decide
end
structure bf(a:Ad)(H:Hp)(t:Tag)(k:Nat)(A:cO)(n:N.ak):Prop where
 ob:H A.p=some (.ins (a.c 6) A.dx (aC A n))
 nG:t A.p=8*(k+1)
 ends:H A.ends=some (.lst [.int n.e0,.int n.e1])
 iJ:t A.ends=8*(k+1)+1
 sums:∃ o,H A.sums=some o∧JR a n.sums o
 rk:t A.sums=0
 bats:Objs (JB a) H t A.bats A.bs n.bats
 gk:t A.bats=8*(k+1)+2
 aI:Objs (Jz a) H t A.aI A.fs n.aI
 gK:t A.aI=8*(k+1)+3
 overs:Objs (KR a) H t A.overs A.os n.overs
 dj:t A.overs=8*(k+1)+4
 told:H A.told=some (.lst (n.told.map fun b=>V.str (strOf b)))
 gL:t A.told=8*(k+1)+5
 falls:Objs Lh H t A.falls A.ls n.falls
 dv:t A.falls=8*(k+1)+6
 stands:Objs (Ie a) H t A.stands A.ss n.stands
 cg:t A.stands=8*(k+1)+7
def inR(k n:Nat):Prop:=8*(k+1)≤n∧n<8*(k+1)+8
section
variable{a:Ad}{H H':Hp}{t t':Tag}{k:Nat}{A:cO}{n:N.ak}
theorem sx:¬inR k 0:=fun h=>by unfold inR at h;omega
theorem bf.step{R:Nat→Prop}(I:bf a H t k A n)(s:Step R H t H' t')(h0:¬R 0)(hk:∀ m,inR k m→¬R m):bf a H' t' k A n:=by
 have kp:∀{b:Addr}{o:HO}{j:Nat},H b=some o→t b=8*(k+1)+j→j<8→H' b=some o∧t' b=8*(k+1)+j:=fun{b o j} h ht hj=>
  ⟨s.keep b o h (by rw[ht];exact hk _ ⟨by omega,by omega⟩),(s.tag b (bU h)).trans ht⟩
 have lk:∀{b:Addr}{o:HO}{j:Nat},H b=some o→t b=8*(k+1)+j→j<8→H' b=H b:=fun h ht hj=>(kp h ht hj).1.trans h.symm
 obtain⟨o,ho,hO⟩:=I.sums;obtain⟨h1,h2⟩:=s.ei h0 ho I.rk
 exact⟨(kp (j:=0) I.ob I.nG (by omega)).1,(kp (j:=0) I.ob I.nG (by omega)).2,(kp I.ends I.iJ (by omega)).1,(kp I.ends I.iJ (by omega)).2,⟨o,h1,hO⟩,h2,
  I.bats.step s h0 (lk I.bats.lst I.gk (by omega)),(kp I.bats.lst I.gk (by omega)).2,I.aI.step s h0 (lk I.aI.lst I.gK (by omega)),(kp I.aI.lst I.gK (by omega)).2,
  I.overs.step s h0 (lk I.overs.lst I.dj (by omega)),(kp I.overs.lst I.dj (by omega)).2,(kp I.told I.gL (by omega)).1,(kp I.told I.gL (by omega)).2,
  I.falls.step s h0 (lk I.falls.lst I.dv (by omega)),(kp I.falls.lst I.dv (by omega)).2,I.stands.step s h0 (lk I.stands.lst I.cg (by omega)),(kp I.stands.lst I.cg (by omega)).2⟩
theorem bf.same(I:bf a H t k A n)(s:a6 H H'):bf a H' t k A n:=I.step (R:=fun _=>False) (Step.same s) (fun h=>h) (fun _ _ h=>h)
end
end Sb
namespace Sb
open PySem L2
section
variable{a:Ad}{H:Hp}{t:Tag}{k:Nat}{A:cO}{n:N.ak}
theorem one{j:Nat}{p:Addr}{o o':HO}(hp:H p=some o)(ht:t p=8*(k+1)+j):Step (fun m=>m=8*(k+1)+j) H t (upd H p o') t:=Step.upd hp ht
theorem nW{j:Nat}{H':Hp}{t':Tag}(s:Step (fun m=>m=8*(k+1)+j) H t H' t')(hj:j<8):Step (inR k) H t H' t':=s.mono fun m h=>⟨by omega,by omega⟩
theorem bf.Dq(I:bf a H t k A n){vs:List V}{ps:List Addr}{xs:List Sh11.Bat}(h:Objs (JB a) (upd H A.bats (.lst vs)) t A.bats ps xs):bf a (upd H A.bats (.lst vs)) t k { A with bs:=ps } { n with bats:=xs }∧Step (inR k) H t (upd H A.bats (.lst vs)) t:=by
 have s:=one (o':=(.lst vs)) (j:=2) I.bats.lst I.gk;have n0:¬(0=8*(k+1)+2):=by omega
 have kp:∀{b:Addr}{o:HO}{j':Nat},H b=some o→t b=8*(k+1)+j'→j'≠2→j'<8→(upd H A.bats (.lst vs)) b=some o∧t b=8*(k+1)+j':=fun{b o j'} h ht hj _=>⟨s.keep b o h (by rw[ht];omega),ht⟩
 obtain⟨os,hos,hOs⟩:=I.sums;have ks:=s.ei n0 hos I.rk;exact⟨⟨(kp (j':=0) I.ob I.nG (by omega) (by omega)).1,(kp (j':=0) I.ob I.nG (by omega) (by omega)).2,(kp (j':=1) I.ends I.iJ (by omega) (by omega)).1,(kp (j':=1) I.ends I.iJ (by omega) (by omega)).2,⟨os,ks.1,hOs⟩,ks.2,h,I.gk,I.aI.step s n0 ((kp (j':=3) I.aI.lst I.gK (by omega) (by omega)).1.trans I.aI.lst.symm),(kp (j':=3) I.aI.lst I.gK (by omega) (by omega)).2,I.overs.step s n0 ((kp (j':=4) I.overs.lst I.dj (by omega) (by omega)).1.trans I.overs.lst.symm),(kp (j':=4) I.overs.lst I.dj (by omega) (by omega)).2,(kp (j':=5) I.told I.gL (by omega) (by omega)).1,(kp (j':=5) I.told I.gL (by omega) (by omega)).2,I.falls.step s n0 ((kp (j':=6) I.falls.lst I.dv (by omega) (by omega)).1.trans I.falls.lst.symm),(kp (j':=6) I.falls.lst I.dv (by omega) (by omega)).2,I.stands.step s n0 ((kp (j':=7) I.stands.lst I.cg (by omega) (by omega)).1.trans I.stands.lst.symm),(kp (j':=7) I.stands.lst I.cg (by omega) (by omega)).2⟩,nW s (by omega)⟩
theorem bf.LH(I:bf a H t k A n){vs:List V}{ps:List Addr}{xs:List Sh11.Bowl}(h:Objs (Jz a) (upd H A.aI (.lst vs)) t A.aI ps xs):bf a (upd H A.aI (.lst vs)) t k { A with fs:=ps } { n with aI:=xs }∧Step (inR k) H t (upd H A.aI (.lst vs)) t:=by
 have s:=one (o':=(.lst vs)) (j:=3) I.aI.lst I.gK;have n0:¬(0=8*(k+1)+3):=by omega
 have kp:∀{b:Addr}{o:HO}{j':Nat},H b=some o→t b=8*(k+1)+j'→j'≠3→j'<8→(upd H A.aI (.lst vs)) b=some o∧t b=8*(k+1)+j':=fun{b o j'} h ht hj _=>⟨s.keep b o h (by rw[ht];omega),ht⟩
 obtain⟨os,hos,hOs⟩:=I.sums;have ks:=s.ei n0 hos I.rk;exact⟨⟨(kp (j':=0) I.ob I.nG (by omega) (by omega)).1,(kp (j':=0) I.ob I.nG (by omega) (by omega)).2,(kp (j':=1) I.ends I.iJ (by omega) (by omega)).1,(kp (j':=1) I.ends I.iJ (by omega) (by omega)).2,⟨os,ks.1,hOs⟩,ks.2,I.bats.step s n0 ((kp (j':=2) I.bats.lst I.gk (by omega) (by omega)).1.trans I.bats.lst.symm),(kp (j':=2) I.bats.lst I.gk (by omega) (by omega)).2,h,I.gK,I.overs.step s n0 ((kp (j':=4) I.overs.lst I.dj (by omega) (by omega)).1.trans I.overs.lst.symm),(kp (j':=4) I.overs.lst I.dj (by omega) (by omega)).2,(kp (j':=5) I.told I.gL (by omega) (by omega)).1,(kp (j':=5) I.told I.gL (by omega) (by omega)).2,I.falls.step s n0 ((kp (j':=6) I.falls.lst I.dv (by omega) (by omega)).1.trans I.falls.lst.symm),(kp (j':=6) I.falls.lst I.dv (by omega) (by omega)).2,I.stands.step s n0 ((kp (j':=7) I.stands.lst I.cg (by omega) (by omega)).1.trans I.stands.lst.symm),(kp (j':=7) I.stands.lst I.cg (by omega) (by omega)).2⟩,nW s (by omega)⟩
theorem bf.E7(I:bf a H t k A n){vs:List V}{ps:List Addr}{xs:List N.Over}(h:Objs (KR a) (upd H A.overs (.lst vs)) t A.overs ps xs):bf a (upd H A.overs (.lst vs)) t k { A with os:=ps } { n with overs:=xs }∧Step (inR k) H t (upd H A.overs (.lst vs)) t:=by
 have s:=one (o':=(.lst vs)) (j:=4) I.overs.lst I.dj;have n0:¬(0=8*(k+1)+4):=by omega
 have kp:∀{b:Addr}{o:HO}{j':Nat},H b=some o→t b=8*(k+1)+j'→j'≠4→j'<8→(upd H A.overs (.lst vs)) b=some o∧t b=8*(k+1)+j':=fun{b o j'} h ht hj _=>⟨s.keep b o h (by rw[ht];omega),ht⟩
 obtain⟨os,hos,hOs⟩:=I.sums;have ks:=s.ei n0 hos I.rk;exact⟨⟨(kp (j':=0) I.ob I.nG (by omega) (by omega)).1,(kp (j':=0) I.ob I.nG (by omega) (by omega)).2,(kp (j':=1) I.ends I.iJ (by omega) (by omega)).1,(kp (j':=1) I.ends I.iJ (by omega) (by omega)).2,⟨os,ks.1,hOs⟩,ks.2,I.bats.step s n0 ((kp (j':=2) I.bats.lst I.gk (by omega) (by omega)).1.trans I.bats.lst.symm),(kp (j':=2) I.bats.lst I.gk (by omega) (by omega)).2,I.aI.step s n0 ((kp (j':=3) I.aI.lst I.gK (by omega) (by omega)).1.trans I.aI.lst.symm),(kp (j':=3) I.aI.lst I.gK (by omega) (by omega)).2,h,I.dj,(kp (j':=5) I.told I.gL (by omega) (by omega)).1,(kp (j':=5) I.told I.gL (by omega) (by omega)).2,I.falls.step s n0 ((kp (j':=6) I.falls.lst I.dv (by omega) (by omega)).1.trans I.falls.lst.symm),(kp (j':=6) I.falls.lst I.dv (by omega) (by omega)).2,I.stands.step s n0 ((kp (j':=7) I.stands.lst I.cg (by omega) (by omega)).1.trans I.stands.lst.symm),(kp (j':=7) I.stands.lst I.cg (by omega) (by omega)).2⟩,nW s (by omega)⟩
theorem bf.IP(I:bf a H t k A n){vs:List V}{ps:List Addr}{xs:List Sh11.Fall}(h:Objs Lh (upd H A.falls (.lst vs)) t A.falls ps xs):bf a (upd H A.falls (.lst vs)) t k { A with ls:=ps } { n with falls:=xs }∧Step (inR k) H t (upd H A.falls (.lst vs)) t:=by
 have s:=one (o':=(.lst vs)) (j:=6) I.falls.lst I.dv;have n0:¬(0=8*(k+1)+6):=by omega
 have kp:∀{b:Addr}{o:HO}{j':Nat},H b=some o→t b=8*(k+1)+j'→j'≠6→j'<8→(upd H A.falls (.lst vs)) b=some o∧t b=8*(k+1)+j':=fun{b o j'} h ht hj _=>⟨s.keep b o h (by rw[ht];omega),ht⟩
 obtain⟨os,hos,hOs⟩:=I.sums;have ks:=s.ei n0 hos I.rk;exact⟨⟨(kp (j':=0) I.ob I.nG (by omega) (by omega)).1,(kp (j':=0) I.ob I.nG (by omega) (by omega)).2,(kp (j':=1) I.ends I.iJ (by omega) (by omega)).1,(kp (j':=1) I.ends I.iJ (by omega) (by omega)).2,⟨os,ks.1,hOs⟩,ks.2,I.bats.step s n0 ((kp (j':=2) I.bats.lst I.gk (by omega) (by omega)).1.trans I.bats.lst.symm),(kp (j':=2) I.bats.lst I.gk (by omega) (by omega)).2,I.aI.step s n0 ((kp (j':=3) I.aI.lst I.gK (by omega) (by omega)).1.trans I.aI.lst.symm),(kp (j':=3) I.aI.lst I.gK (by omega) (by omega)).2,I.overs.step s n0 ((kp (j':=4) I.overs.lst I.dj (by omega) (by omega)).1.trans I.overs.lst.symm),(kp (j':=4) I.overs.lst I.dj (by omega) (by omega)).2,(kp (j':=5) I.told I.gL (by omega) (by omega)).1,(kp (j':=5) I.told I.gL (by omega) (by omega)).2,h,I.dv,I.stands.step s n0 ((kp (j':=7) I.stands.lst I.cg (by omega) (by omega)).1.trans I.stands.lst.symm),(kp (j':=7) I.stands.lst I.cg (by omega) (by omega)).2⟩,nW s (by omega)⟩
theorem bf.xF(I:bf a H t k A n){vs:List V}{ps:List Addr}{xs:List Sh11.Stand}(h:Objs (Ie a) (upd H A.stands (.lst vs)) t A.stands ps xs):bf a (upd H A.stands (.lst vs)) t k { A with ss:=ps } { n with stands:=xs }∧Step (inR k) H t (upd H A.stands (.lst vs)) t:=by
 have s:=one (o':=(.lst vs)) (j:=7) I.stands.lst I.cg;have n0:¬(0=8*(k+1)+7):=by omega
 have kp:∀{b:Addr}{o:HO}{j':Nat},H b=some o→t b=8*(k+1)+j'→j'≠7→j'<8→(upd H A.stands (.lst vs)) b=some o∧t b=8*(k+1)+j':=fun{b o j'} h ht hj _=>⟨s.keep b o h (by rw[ht];omega),ht⟩
 obtain⟨os,hos,hOs⟩:=I.sums;have ks:=s.ei n0 hos I.rk;exact⟨⟨(kp (j':=0) I.ob I.nG (by omega) (by omega)).1,(kp (j':=0) I.ob I.nG (by omega) (by omega)).2,(kp (j':=1) I.ends I.iJ (by omega) (by omega)).1,(kp (j':=1) I.ends I.iJ (by omega) (by omega)).2,⟨os,ks.1,hOs⟩,ks.2,I.bats.step s n0 ((kp (j':=2) I.bats.lst I.gk (by omega) (by omega)).1.trans I.bats.lst.symm),(kp (j':=2) I.bats.lst I.gk (by omega) (by omega)).2,I.aI.step s n0 ((kp (j':=3) I.aI.lst I.gK (by omega) (by omega)).1.trans I.aI.lst.symm),(kp (j':=3) I.aI.lst I.gK (by omega) (by omega)).2,I.overs.step s n0 ((kp (j':=4) I.overs.lst I.dj (by omega) (by omega)).1.trans I.overs.lst.symm),(kp (j':=4) I.overs.lst I.dj (by omega) (by omega)).2,(kp (j':=5) I.told I.gL (by omega) (by omega)).1,(kp (j':=5) I.told I.gL (by omega) (by omega)).2,I.falls.step s n0 ((kp (j':=6) I.falls.lst I.dv (by omega) (by omega)).1.trans I.falls.lst.symm),(kp (j':=6) I.falls.lst I.dv (by omega) (by omega)).2,h,I.cg⟩,nW s (by omega)⟩
theorem bf.LQ(I:bf a H t k A n)(xs:List Sh11.Bytes):bf a (upd H A.told (.lst (xs.map fun b=>V.str (strOf b)))) t k A { n with told:=xs }∧Step (inR k) H t (upd H A.told (.lst (xs.map fun b=>V.str (strOf b)))) t:=by
 have s:=one (o':=(.lst (xs.map fun b=>V.str (strOf b)))) (j:=5) I.told I.gL;have n0:¬(0=8*(k+1)+5):=by omega
 have kp:∀{b:Addr}{o:HO}{j':Nat},H b=some o→t b=8*(k+1)+j'→j'≠5→j'<8→(upd H A.told (.lst (xs.map fun b=>V.str (strOf b)))) b=some o∧t b=8*(k+1)+j':=fun{b o j'} h ht hj _=>⟨s.keep b o h (by rw[ht];omega),ht⟩
 obtain⟨os,hos,hOs⟩:=I.sums;have ks:=s.ei n0 hos I.rk;exact⟨⟨(kp (j':=0) I.ob I.nG (by omega) (by omega)).1,(kp (j':=0) I.ob I.nG (by omega) (by omega)).2,(kp (j':=1) I.ends I.iJ (by omega) (by omega)).1,(kp (j':=1) I.ends I.iJ (by omega) (by omega)).2,⟨os,ks.1,hOs⟩,ks.2,I.bats.step s n0 ((kp (j':=2) I.bats.lst I.gk (by omega) (by omega)).1.trans I.bats.lst.symm),(kp (j':=2) I.bats.lst I.gk (by omega) (by omega)).2,I.aI.step s n0 ((kp (j':=3) I.aI.lst I.gK (by omega) (by omega)).1.trans I.aI.lst.symm),(kp (j':=3) I.aI.lst I.gK (by omega) (by omega)).2,I.overs.step s n0 ((kp (j':=4) I.overs.lst I.dj (by omega) (by omega)).1.trans I.overs.lst.symm),(kp (j':=4) I.overs.lst I.dj (by omega) (by omega)).2,aa,I.gL,I.falls.step s n0 ((kp (j':=6) I.falls.lst I.dv (by omega) (by omega)).1.trans I.falls.lst.symm),(kp (j':=6) I.falls.lst I.dv (by omega) (by omega)).2,I.stands.step s n0 ((kp (j':=7) I.stands.lst I.cg (by omega) (by omega)).1.trans I.stands.lst.symm),(kp (j':=7) I.stands.lst I.cg (by omega) (by omega)).2⟩,nW s (by omega)⟩
theorem bf.rb(I:bf a H t k A n)(x y:Nat):bf a (upd H A.ends (.lst [.int x,.int y])) t k A { n with e0:=x,e1:=y }∧Step (inR k) H t (upd H A.ends (.lst [.int x,.int y])) t:=by
 have s:=one (o':=(.lst [.int x,.int y])) (j:=1) I.ends I.iJ;have n0:¬(0=8*(k+1)+1):=by omega
 have kp:∀{b:Addr}{o:HO}{j':Nat},H b=some o→t b=8*(k+1)+j'→j'≠1→j'<8→(upd H A.ends (.lst [.int x,.int y])) b=some o∧t b=8*(k+1)+j':=fun{b o j'} h ht hj _=>⟨s.keep b o h (by rw[ht];omega),ht⟩
 obtain⟨os,hos,hOs⟩:=I.sums;have ks:=s.ei n0 hos I.rk;exact⟨⟨(kp (j':=0) I.ob I.nG (by omega) (by omega)).1,(kp (j':=0) I.ob I.nG (by omega) (by omega)).2,aa,I.iJ,⟨os,ks.1,hOs⟩,ks.2,I.bats.step s n0 ((kp (j':=2) I.bats.lst I.gk (by omega) (by omega)).1.trans I.bats.lst.symm),(kp (j':=2) I.bats.lst I.gk (by omega) (by omega)).2,I.aI.step s n0 ((kp (j':=3) I.aI.lst I.gK (by omega) (by omega)).1.trans I.aI.lst.symm),(kp (j':=3) I.aI.lst I.gK (by omega) (by omega)).2,I.overs.step s n0 ((kp (j':=4) I.overs.lst I.dj (by omega) (by omega)).1.trans I.overs.lst.symm),(kp (j':=4) I.overs.lst I.dj (by omega) (by omega)).2,(kp (j':=5) I.told I.gL (by omega) (by omega)).1,(kp (j':=5) I.told I.gL (by omega) (by omega)).2,I.falls.step s n0 ((kp (j':=6) I.falls.lst I.dv (by omega) (by omega)).1.trans I.falls.lst.symm),(kp (j':=6) I.falls.lst I.dv (by omega) (by omega)).2,I.stands.step s n0 ((kp (j':=7) I.stands.lst I.cg (by omega) (by omega)).1.trans I.stands.lst.symm),(kp (j':=7) I.stands.lst I.cg (by omega) (by omega)).2⟩,nW s (by omega)⟩
theorem bf.jV(I:bf a H t k A n)(e:Nat):bf a (upd H A.p (.ins (a.c 6) A.dx (aC A { n with ended:=e }))) t k A { n with ended:=e }∧Step (inR k) H t (upd H A.p (.ins (a.c 6) A.dx (aC A { n with ended:=e }))) t:=by
 have s:=one (o':=(.ins (a.c 6) A.dx (aC A { n with ended:=e }))) (j:=0) I.ob I.nG;have n0:¬(0=8*(k+1)+0):=by omega
 have kp:∀{b:Addr}{o:HO}{j':Nat},H b=some o→t b=8*(k+1)+j'→j'≠0→j'<8→(upd H A.p (.ins (a.c 6) A.dx (aC A { n with ended:=e }))) b=some o∧t b=8*(k+1)+j':=fun{b o j'} h ht hj _=>⟨s.keep b o h (by rw[ht];omega),ht⟩
 obtain⟨os,hos,hOs⟩:=I.sums;have ks:=s.ei n0 hos I.rk;exact⟨⟨aa,I.nG,(kp (j':=1) I.ends I.iJ (by omega) (by omega)).1,(kp (j':=1) I.ends I.iJ (by omega) (by omega)).2,⟨os,ks.1,hOs⟩,ks.2,I.bats.step s n0 ((kp (j':=2) I.bats.lst I.gk (by omega) (by omega)).1.trans I.bats.lst.symm),(kp (j':=2) I.bats.lst I.gk (by omega) (by omega)).2,I.aI.step s n0 ((kp (j':=3) I.aI.lst I.gK (by omega) (by omega)).1.trans I.aI.lst.symm),(kp (j':=3) I.aI.lst I.gK (by omega) (by omega)).2,I.overs.step s n0 ((kp (j':=4) I.overs.lst I.dj (by omega) (by omega)).1.trans I.overs.lst.symm),(kp (j':=4) I.overs.lst I.dj (by omega) (by omega)).2,(kp (j':=5) I.told I.gL (by omega) (by omega)).1,(kp (j':=5) I.told I.gL (by omega) (by omega)).2,I.falls.step s n0 ((kp (j':=6) I.falls.lst I.dv (by omega) (by omega)).1.trans I.falls.lst.symm),(kp (j':=6) I.falls.lst I.dv (by omega) (by omega)).2,I.stands.step s n0 ((kp (j':=7) I.stands.lst I.cg (by omega) (by omega)).1.trans I.stands.lst.symm),(kp (j':=7) I.stands.lst I.cg (by omega) (by omega)).2⟩,nW s (by omega)⟩
theorem bf.Hf(I:bf a H t k A n){q:Addr}{y:N.bB}{o:HO}(hq:H q=some o)(hO:JR a y o)(tq:t q=0):bf a (upd H A.p (.ins (a.c 6) A.dx (aC { A with sums:=q } { n with sums:=y }))) t k { A with sums:=q } { n with sums:=y }∧Step (inR k) H t (upd H A.p (.ins (a.c 6) A.dx (aC { A with sums:=q } { n with sums:=y }))) t:=by
 have s:=one (o':=(.ins (a.c 6) A.dx (aC { A with sums:=q } { n with sums:=y }))) (j:=0) I.ob I.nG;have n0:¬(0=8*(k+1)+0):=by omega
 have kp:∀{b:Addr}{o:HO}{j':Nat},H b=some o→t b=8*(k+1)+j'→j'≠0→j'<8→(upd H A.p (.ins (a.c 6) A.dx (aC { A with sums:=q } { n with sums:=y }))) b=some o∧t b=8*(k+1)+j':=fun{b o j'} h ht hj _=>⟨s.keep b o h (by rw[ht];omega),ht⟩
 obtain⟨os,hos,hOs⟩:=I.sums;have ks:=s.ei n0 hos I.rk;exact⟨⟨aa,I.nG,(kp (j':=1) I.ends I.iJ (by omega) (by omega)).1,(kp (j':=1) I.ends I.iJ (by omega) (by omega)).2,⟨o,(s.ei n0 hq tq).1,hO⟩,tq,I.bats.step s n0 ((kp (j':=2) I.bats.lst I.gk (by omega) (by omega)).1.trans I.bats.lst.symm),(kp (j':=2) I.bats.lst I.gk (by omega) (by omega)).2,I.aI.step s n0 ((kp (j':=3) I.aI.lst I.gK (by omega) (by omega)).1.trans I.aI.lst.symm),(kp (j':=3) I.aI.lst I.gK (by omega) (by omega)).2,I.overs.step s n0 ((kp (j':=4) I.overs.lst I.dj (by omega) (by omega)).1.trans I.overs.lst.symm),(kp (j':=4) I.overs.lst I.dj (by omega) (by omega)).2,(kp (j':=5) I.told I.gL (by omega) (by omega)).1,(kp (j':=5) I.told I.gL (by omega) (by omega)).2,I.falls.step s n0 ((kp (j':=6) I.falls.lst I.dv (by omega) (by omega)).1.trans I.falls.lst.symm),(kp (j':=6) I.falls.lst I.dv (by omega) (by omega)).2,I.stands.step s n0 ((kp (j':=7) I.stands.lst I.cg (by omega) (by omega)).1.trans I.stands.lst.symm),(kp (j':=7) I.stands.lst I.cg (by omega) (by omega)).2⟩,nW s (by omega)⟩
theorem bf.Dw(I:bf a H t k A n){q:Addr}{x y:Nat}(hq:H q=some (.lst [.int x,.int y]))(tq:t q=8*(k+1)+1):bf a (upd H A.p (.ins (a.c 6) A.dx (aC { A with ends:=q } { n with e0:=x,e1:=y }))) t k { A with ends:=q } { n with e0:=x,e1:=y }∧Step (inR k) H t (upd H A.p (.ins (a.c 6) A.dx (aC { A with ends:=q } { n with e0:=x,e1:=y }))) t:=by
 have s:=one (o':=(.ins (a.c 6) A.dx (aC { A with ends:=q } { n with e0:=x,e1:=y }))) (j:=0) I.ob I.nG;have n0:¬(0=8*(k+1)+0):=by omega
 have kp:∀{b:Addr}{o:HO}{j':Nat},H b=some o→t b=8*(k+1)+j'→j'≠0→j'<8→(upd H A.p (.ins (a.c 6) A.dx (aC { A with ends:=q } { n with e0:=x,e1:=y }))) b=some o∧t b=8*(k+1)+j':=fun{b o j'} h ht hj _=>⟨s.keep b o h (by rw[ht];omega),ht⟩
 obtain⟨os,hos,hOs⟩:=I.sums;have ks:=s.ei n0 hos I.rk;exact⟨⟨aa,I.nG,(kp (j':=1) hq tq (by omega) (by omega)).1,tq,⟨os,ks.1,hOs⟩,ks.2,I.bats.step s n0 ((kp (j':=2) I.bats.lst I.gk (by omega) (by omega)).1.trans I.bats.lst.symm),(kp (j':=2) I.bats.lst I.gk (by omega) (by omega)).2,I.aI.step s n0 ((kp (j':=3) I.aI.lst I.gK (by omega) (by omega)).1.trans I.aI.lst.symm),(kp (j':=3) I.aI.lst I.gK (by omega) (by omega)).2,I.overs.step s n0 ((kp (j':=4) I.overs.lst I.dj (by omega) (by omega)).1.trans I.overs.lst.symm),(kp (j':=4) I.overs.lst I.dj (by omega) (by omega)).2,(kp (j':=5) I.told I.gL (by omega) (by omega)).1,(kp (j':=5) I.told I.gL (by omega) (by omega)).2,I.falls.step s n0 ((kp (j':=6) I.falls.lst I.dv (by omega) (by omega)).1.trans I.falls.lst.symm),(kp (j':=6) I.falls.lst I.dv (by omega) (by omega)).2,I.stands.step s n0 ((kp (j':=7) I.stands.lst I.cg (by omega) (by omega)).1.trans I.stands.lst.symm),(kp (j':=7) I.stands.lst I.cg (by omega) (by omega)).2⟩,nW s (by omega)⟩
theorem bf.O0(I:bf a H t k A n){q:Addr}{ps:List Addr}{xs:List Sh11.Bat}(hq:Objs (JB a) H t q ps xs)(tq:t q=8*(k+1)+2):bf a (upd H A.p (.ins (a.c 6) A.dx (aC { A with bats:=q,bs:=ps } { n with bats:=xs }))) t k { A with bats:=q,bs:=ps } { n with bats:=xs }∧Step (inR k) H t (upd H A.p (.ins (a.c 6) A.dx (aC { A with bats:=q,bs:=ps } { n with bats:=xs }))) t:=by
 have s:=one (o':=(.ins (a.c 6) A.dx (aC { A with bats:=q,bs:=ps } { n with bats:=xs }))) (j:=0) I.ob I.nG;have n0:¬(0=8*(k+1)+0):=by omega
 have kp:∀{b:Addr}{o:HO}{j':Nat},H b=some o→t b=8*(k+1)+j'→j'≠0→j'<8→(upd H A.p (.ins (a.c 6) A.dx (aC { A with bats:=q,bs:=ps } { n with bats:=xs }))) b=some o∧t b=8*(k+1)+j':=fun{b o j'} h ht hj _=>⟨s.keep b o h (by rw[ht];omega),ht⟩
 obtain⟨os,hos,hOs⟩:=I.sums;have ks:=s.ei n0 hos I.rk;exact⟨⟨aa,I.nG,(kp (j':=1) I.ends I.iJ (by omega) (by omega)).1,(kp (j':=1) I.ends I.iJ (by omega) (by omega)).2,⟨os,ks.1,hOs⟩,ks.2,hq.step s n0 ((kp (j':=2) hq.lst tq (by omega) (by omega)).1.trans hq.lst.symm),tq,I.aI.step s n0 ((kp (j':=3) I.aI.lst I.gK (by omega) (by omega)).1.trans I.aI.lst.symm),(kp (j':=3) I.aI.lst I.gK (by omega) (by omega)).2,I.overs.step s n0 ((kp (j':=4) I.overs.lst I.dj (by omega) (by omega)).1.trans I.overs.lst.symm),(kp (j':=4) I.overs.lst I.dj (by omega) (by omega)).2,(kp (j':=5) I.told I.gL (by omega) (by omega)).1,(kp (j':=5) I.told I.gL (by omega) (by omega)).2,I.falls.step s n0 ((kp (j':=6) I.falls.lst I.dv (by omega) (by omega)).1.trans I.falls.lst.symm),(kp (j':=6) I.falls.lst I.dv (by omega) (by omega)).2,I.stands.step s n0 ((kp (j':=7) I.stands.lst I.cg (by omega) (by omega)).1.trans I.stands.lst.symm),(kp (j':=7) I.stands.lst I.cg (by omega) (by omega)).2⟩,nW s (by omega)⟩
theorem bf.OY(I:bf a H t k A n){q:Addr}{ps:List Addr}{xs:List Sh11.Bowl}(hq:Objs (Jz a) H t q ps xs)(tq:t q=8*(k+1)+3):bf a (upd H A.p (.ins (a.c 6) A.dx (aC { A with aI:=q,fs:=ps } { n with aI:=xs }))) t k { A with aI:=q,fs:=ps } { n with aI:=xs }∧Step (inR k) H t (upd H A.p (.ins (a.c 6) A.dx (aC { A with aI:=q,fs:=ps } { n with aI:=xs }))) t:=by
 have s:=one (o':=(.ins (a.c 6) A.dx (aC { A with aI:=q,fs:=ps } { n with aI:=xs }))) (j:=0) I.ob I.nG;have n0:¬(0=8*(k+1)+0):=by omega
 have kp:∀{b:Addr}{o:HO}{j':Nat},H b=some o→t b=8*(k+1)+j'→j'≠0→j'<8→(upd H A.p (.ins (a.c 6) A.dx (aC { A with aI:=q,fs:=ps } { n with aI:=xs }))) b=some o∧t b=8*(k+1)+j':=fun{b o j'} h ht hj _=>⟨s.keep b o h (by rw[ht];omega),ht⟩
 obtain⟨os,hos,hOs⟩:=I.sums;have ks:=s.ei n0 hos I.rk;exact⟨⟨aa,I.nG,(kp (j':=1) I.ends I.iJ (by omega) (by omega)).1,(kp (j':=1) I.ends I.iJ (by omega) (by omega)).2,⟨os,ks.1,hOs⟩,ks.2,I.bats.step s n0 ((kp (j':=2) I.bats.lst I.gk (by omega) (by omega)).1.trans I.bats.lst.symm),(kp (j':=2) I.bats.lst I.gk (by omega) (by omega)).2,hq.step s n0 ((kp (j':=3) hq.lst tq (by omega) (by omega)).1.trans hq.lst.symm),tq,I.overs.step s n0 ((kp (j':=4) I.overs.lst I.dj (by omega) (by omega)).1.trans I.overs.lst.symm),(kp (j':=4) I.overs.lst I.dj (by omega) (by omega)).2,(kp (j':=5) I.told I.gL (by omega) (by omega)).1,(kp (j':=5) I.told I.gL (by omega) (by omega)).2,I.falls.step s n0 ((kp (j':=6) I.falls.lst I.dv (by omega) (by omega)).1.trans I.falls.lst.symm),(kp (j':=6) I.falls.lst I.dv (by omega) (by omega)).2,I.stands.step s n0 ((kp (j':=7) I.stands.lst I.cg (by omega) (by omega)).1.trans I.stands.lst.symm),(kp (j':=7) I.stands.lst I.cg (by omega) (by omega)).2⟩,nW s (by omega)⟩
end
end Sb
namespace Sb
open PySem L2
section
variable{P:Program}{w:World}{K:PySem.W.Frag}{mg:Str→Option Value}{base:Heap}{a:Ad}
theorem Objs.last{α:Type}{O:α→HO→Prop}{H:Hp}{t:Tag}{l:Addr}{ps:List Addr}{xs:List α}{x:α}(h:Objs O H t l ps (xs++[x])):∃ qs p o,ps=qs++[p]∧qs.length=xs.length∧t p=0∧H p=some o∧O x o∧IA (ps.map V.ref) (-1)=some (V.ref p):=by
 obtain⟨p,o,hp,ht,ho,hO⟩:=h.get (j:=xs.length) (x:=x) (by simp);have hl:=h.len;rcases aq.a8 ps with e|⟨qs,q,e⟩
 ·rw[e]at hl;simp at hl
 ·subst e;have e2:qs.length=xs.length:=by simp at hl;exact hl
  rw[←e2]at hp;have e3:q=p:=by simpa using hp
  subst e3;exact⟨qs,q,o,rfl,e2,ht,ho,hO,by rw[List.map_append];exact Ak _ _⟩
theorem bH{c:Bool}{A B:Prop}(h:c=true)(x:A):if c=true then A else B:=by rw[if_pos h];exact x
theorem cw{c:Bool}{A B:Prop}(h:c=false)(x:B):if c=true then A else B:=by rw[if_neg (by rw[h];decide)];exact x
theorem OD{x y:Nat}:Pe (.int (11:Nat)) [V.int (x:Int),V.int (y:Int)]=(x==11||y==11):=by
 show(((x:Int)==11)||(((y:Int)==11)||false))=_;have e:∀ z:Nat,((z:Int)==11)=(z==11):=fun z=>by
  rw[Bool.eq_iff_iff];simp;omega
 rw[e,e,Bool.or_false]
theorem OT{H:Hp}{D:Addr}{f:List (Option V)}{i:Nat}{y:V}(h:f[i]?=some (some y)) :
  upd (upd H D (.lst ((f.take i).filterMap id))) D (.lst ((f.take i).filterMap id++[y]))=upd H D (.lst ((f.take (i+1)).filterMap id)):=by
 have hi:=(List.getElem?_eq_some_iff.mp h)
 obtain⟨h1,h2⟩:=hi;rw[jz,List.take_succ_eq_append_getElem h1,h2];simp
theorem OF{f:List (Option V)}{i:Nat}(h:f[i]?=some none):(f.take (i+1)).filterMap id=(f.take i).filterMap id:=by
 obtain⟨h1,h2⟩:=List.getElem?_eq_some_iff.mp h;rw[List.take_succ_eq_append_getElem h1,h2];simp
theorem Qu{f:List (Option V)}{i n:Nat}(h:f.length≤n)(hn:n<sizeLine):((f.take i).filterMap id).length<sizeLine:=by
 have h1:((f.take i).filterMap id).length≤(f.take i).length:=List.length_filterMap_le _ _;have h2:(f.take i).length≤f.length:=by rw[List.length_take];omega
 omega
theorem aA{H:Hp}{D:Addr}{o:HO}(h:H D=none):a6 H (upd H D o):=fun b u e=>by rw[ax (aQ e h)];exact e
inductive uZ(a:Ad)(vs:List V)(H:Hp)(Q:VK):Prop
 |mk(t:Tag)(k:Nat)(A:cO)(n:N.ak)(_:vs=[.ref A.p])(_:bf a H t k A n)(_:Q (.int n.falls.length) H)
def su(a:Ad):Sp:=fun vs H Q _=>uZ a vs H Q
theorem sG:ao ["self"] ["self"] (ai gY):=⟨rfl,rfl,rfl,by decide +kernel,rfl,by decide +kernel,by decide +kernel⟩
theorem gE(T:Txt K mg a):aZ P w K mg base cG 1 (a.f 42) (a.d 42) ["self"] (su a):=by
 refine T.Innings.eJ.F.ok sG (fun vs H Q E h=>?_) (fun cdv A outer s H vs Q E hr h=>?_)
 ·obtain⟨t,k,A,n,rfl,_⟩:=h;rfl
 ·obtain⟨t,k,A,n,rfl,I,k0⟩:=h;refine⟨_,(ag (ay (ba aP rfl T.fn.c8 PySem.boot_len (aK (af (pv 0) rfl) ah)))),?_⟩;refine⟨_,rfl,_,_,_,_,_,rfl,I.ob,T.Innings.cl,T.Innings.rn,hV,_,_,rfl,.inl (bD.of I.falls.lst),?_⟩;rw[List.length_map,I.falls.len];exact k0
inductive sA(a:Ad)(vs:List V)(H:Hp)(Q:VK):Prop
 |mk(t:Tag)(k:Nat)(A:cO)(n:N.ak)(_:vs=[.ref A.p])(_:bf a H t k A n)(_:Q (.bl n.aH) H)
def sq(a:Ad):Sp:=fun vs H Q _=>sA a vs H Q
theorem rC:ao ["self"] ["self"] (ai gu):=⟨rfl,rfl,rfl,by decide +kernel,rfl,by decide +kernel,by decide +kernel⟩
theorem cK(T:Txt K mg a):aZ P w K mg base cG 1 (a.f 43) (a.d 43) ["self"] (sq a):=by
 refine T.Innings.cq.F.ok rC (fun vs H Q E h=>?_) (fun cdv A outer s H vs Q E hr h=>?_)
 ·obtain⟨t,k,A,n,rfl,_⟩:=h;rfl
 ·obtain⟨t,k,A,n,rfl,I,k0⟩:=h;refine⟨_,(ag (ay (Py Ml (aN rfl T.fn.dQ) (af (pv 0) rfl) (by rfl)))),?_⟩;refine⟨_,rfl,_,_,_,_,_,rfl,I.ob,T.Innings.cl,T.Innings.dP,bh,_,_,rfl,.inl (bD.of I.ends),rfl,rfl,?_⟩;have e:n.aH=Pe (.int (11:Nat)) [V.int (n.e0:Int),V.int (n.e1:Int)]:=OD.symm;rw[e]at k0;exact k0
inductive vv(a:Ad)(vs:List V)(H:Hp)(Q:VK):Prop
 |mk(t:Tag)(k:Nat)(A:cO)(n:N.ak)(x:Sh11.Bat)(pl:Nat)(_:vs=[.ref A.p,.int pl])(_:bf a H t k A n)(_:n.bats[pl]?=some x)(_:Q (.bl (aq.bI x)) H)
def vc(a:Ad):Sp:=fun vs H Q _=>vv a vs H Q
theorem ur:ao ["self","player"] ["self","player"] (ai ik):=⟨rfl,rfl,rfl,by decide +kernel,rfl,by decide +kernel,by decide +kernel⟩
theorem uG(T:Txt K mg a):aZ P w K mg base cG 2 (a.f 44) (a.d 44) ["self","player"] (vc a):=by
 refine T.Innings.mh.F.ok ur (fun vs H Q E h=>?_) (fun cdv A outer s H vs Q E hr h=>?_)
 ·obtain⟨t,k,A,n,x,pl,rfl,_⟩:=h;rfl
 ·obtain⟨t,k,A,n,x,pl,rfl,I,hx,k0⟩:=h;refine⟨_,(ag (ay (az (aM aD (af (pv 0) rfl) (pv 1) (fun _ _=>rfl)) T.aE.cl T.aE.dS (mj T) (hr.mono (by decide)) T.aE.iY.b .nil au ))),?_⟩;obtain⟨p,o,hp,ht,ho,dx,rfl⟩:=I.bats.get hx;exact⟨_,rfl,_,_,_,_,_,rfl,I.ob,T.Innings.cl,T.Innings.cH,bq,_,rfl,_,_,_,_,rfl,rfl,bD.of I.bats.lst,ar (fe hp),_,_,_,rfl,ho,kU,_,_,_,rfl,ho,k0⟩
inductive tS(a:Ad)(vs:List V)(H:Hp)(Q:VK):Prop
 |mk(t:Tag)(k:Nat)(A:cO)(n:N.ak)(_:vs=[.ref A.p])(_:bf a H t k A n)(_:Q (.bl n.jm) H)
def sF(a:Ad):Sp:=fun vs H Q _=>tS a vs H Q
theorem tI:ao ["self"] ["self"] (ai g6):=⟨rfl,rfl,rfl,by decide +kernel,rfl,by decide +kernel,by decide +kernel⟩
theorem c5(T:Txt K mg a):aZ P w K mg base cG 1 (a.f 48) (a.d 48) ["self"] (sF a):=by
 refine T.Innings.cx.F.ok tI (fun vs H Q E h=>?_) (fun cdv A outer s H vs Q E hr h=>?_)
 ·obtain⟨t,k,A,n,rfl,_⟩:=h;rfl
 ·obtain⟨t,k,A,n,rfl,I,k0⟩:=h;refine⟨_,(ag (ay (du (bP (kT (ba aP rfl T.fn.c8 PySem.boot_len (aK (af (pv 0) rfl) ah)) aj)) (eE (bP (yo (af (aM aD (af (pv 0) rfl) (ly g5 aj) (fun _ _=>rfl)) rfl) (af (pv 0) rfl))))))),?_⟩;refine⟨_,rfl,_,_,_,_,_,rfl,I.ob,T.Innings.cl,T.Innings.dz,a9,_,_,rfl,.inl (bD.of I.overs.lst),_,_,rfl,rfl,_,rfl,?_⟩;rw[List.length_map,I.overs.len];rcases aq.a8 n.overs with e|⟨os,x,e⟩
  ·have k1:Q (.bl false) H:=by
    have:n.jm=false:=by unfold N.ak.jm;rw[e];rfl
    rw[this]at k0;exact k0
   rw[e];exact k1
  ·have I2:=I.overs;rw[e]at I2;obtain⟨qs,p,o,e1,e2,ht,ho,⟨dx,rfl⟩,hat⟩:=I2.last;have k1:Q (.bl (decide ((x.balls:Int)<(n.len:Int)))) H:=by
    have:n.jm=decide (x.balls<n.len):=by unfold N.ak.jm;rw[e];simp
    rw[this,←dT]at k0;exact k0
   have e3:decide ((0:Int)<((n.overs.length:Nat):Int))=true:=decide_eq_true (by rw[e];simp);exact bH e3 ⟨_,rfl,_,_,_,_,_,rfl,I.ob,T.Innings.cl,T.Innings.dz,a9,_,rfl,_,_,_,_,rfl,rfl,bD.of I.overs.lst,hat,_,_,_,_,_,rfl,ho,T.Over.cl,T.Over.bS,zZ,_,rfl,_,_,_,_,_,rfl,I.ob,T.Innings.cl,T.Innings.dO,vI,_,_,rfl,rfl,k1⟩
inductive xW(a:Ad)(vs:List V)(H:Hp)(Q:VK):Prop
 |mk(t:Tag)(k:Nat)(A:cO)(n:N.ak)(_:vs=[.ref A.p])(_:bf a H t k A n)(_:Q (.int n.cW) H)
def wg(a:Ad):Sp:=fun vs H Q _=>xW a vs H Q
theorem xB:ao ["self"] ["self"] (ai jN):=⟨rfl,rfl,rfl,by decide +kernel,rfl,by decide +kernel,by decide +kernel⟩
theorem iU(T:Txt K mg a):aZ P w K mg base cG 2 (a.f 49) (a.d 49) ["self"] (wg a):=by
 refine T.Innings.gq.F.ok xB (fun vs H Q E h=>?_) (fun cdv A outer s H vs Q E hr h=>?_)
 ·obtain⟨t,k,A,n,rfl,_⟩:=h;rfl
 ·obtain⟨t,k,A,n,rfl,I,k0⟩:=h;refine⟨_,(ag (ay (dk (dR (az (pv 0) T.Innings.cl T.Innings.bQ (c5 T) (hr.mono (by decide)) T.Innings.cx.b .nil au )) (af (aM aD (af (pv 0) rfl) (ly g5 aj) (fun _ _=>rfl)) rfl) (aN rfl T.fn.dQ)))),?_⟩;refine⟨_,rfl,_,_,_,rfl,I.ob,cD,_,_,_,_,rfl,I,_,rfl,?_⟩;unfold N.ak.cW at k0;refine eM (fun h=>?_) (fun h=>?_)
  ·rw[if_pos h]at k0;rcases aq.a8 n.overs with e|⟨os,x,e⟩
   ·unfold N.ak.jm at h;rw[e]at h;cases h
   ·have I2:=I.overs;rw[e]at I2;obtain⟨qs,p,o,e1,e2,ht,ho,⟨dx,rfl⟩,hat⟩:=I2.last;have e3:((n.overs.getLast?).map (·.bowler)).getD 11=x.bowler:=by rw[e];simp
    rw[e3]at k0;exact⟨_,rfl,_,_,_,_,_,rfl,I.ob,T.Innings.cl,T.Innings.dz,a9,_,rfl,_,_,_,_,rfl,rfl,bD.of I.overs.lst,hat,_,_,_,_,_,rfl,ho,T.Over.cl,T.Over.fV,jZ,k0⟩
  ·rw[if_neg h]at k0;exact k0
inductive qi(a:Ad)(vs:List V)(H:Hp)(Q:VK):Prop
 |mk(t:Tag)(k:Nat)(A:cO)(n:N.ak)(pl:Nat)(_:vs=[.ref A.p,.int pl])(_:bf a H t k A n)(_:Q (.bl (n.kP pl)) H)
def o8(a:Ad):Sp:=fun vs H Q _=>qi a vs H Q
theorem oY:ao ["self","player"] ["self","player"] (ai fc):=⟨rfl,rfl,rfl,by decide +kernel,rfl,by decide +kernel,by decide +kernel⟩
theorem oO(T:Txt K mg a):aZ P w K mg base cG 1 (a.f 50) (a.d 50) ["self","player"] (o8 a):=by
 refine T.Innings.jf.F.ok oY (fun vs H Q E h=>?_) (fun cdv A outer s H vs Q E hr h=>?_)
 ·obtain⟨t,k,A,n,pl,rfl,_⟩:=h;rfl
 ·obtain⟨t,k,A,n,pl,rfl,I,k0⟩:=h;refine⟨_,(ag (ay (du (bP (kT (ba aP rfl T.fn.c8 PySem.boot_len (aK (af (pv 0) rfl) ah)) aj)) (eE (bP (bx (af (aM aD (af (pv 0) rfl) (ly g5 aj) (fun _ _=>rfl)) rfl) (pv 1))))))),?_⟩;refine⟨_,rfl,_,_,_,_,_,rfl,I.ob,T.Innings.cl,T.Innings.dz,a9,_,_,rfl,.inl (bD.of I.overs.lst),_,_,rfl,rfl,_,rfl,?_⟩;rw[List.length_map,I.overs.len];rcases aq.a8 n.overs with e|⟨os,x,e⟩
  ·have k1:Q (.bl false) H:=by
    have:n.kP pl=false:=by unfold N.ak.kP;rw[e];rfl
    rw[this]at k0;exact k0
   rw[e];exact k1
  ·have I2:=I.overs;rw[e]at I2;obtain⟨qs,p,o,e1,e2,ht,ho,⟨dx,rfl⟩,hat⟩:=I2.last;have k1:Q (.bl (decide ((x.bowler:Int)=(pl:Int)))) H:=by
    have:n.kP pl=decide (x.bowler=pl):=by unfold N.ak.kP;rw[e];simp
    rw[this,←dI]at k0;exact k0
   have e3:decide ((0:Int)<((n.overs.length:Nat):Int))=true:=decide_eq_true (by rw[e];simp);exact bH e3 ⟨_,rfl,_,_,_,_,_,rfl,I.ob,T.Innings.cl,T.Innings.dz,a9,_,rfl,_,_,_,_,rfl,rfl,bD.of I.overs.lst,hat,_,_,_,_,_,rfl,ho,T.Over.cl,T.Over.fV,jZ,_,rfl,_,_,rfl,rfl,k1⟩
inductive qM(a:Ad)(vs:List V)(H:Hp)(Q:VK):Prop
 |mk(t:Tag)(k:Nat)(A:cO)(n:N.ak)(c:Nat)(_:vs=[.ref A.p,.int c])(_:bf a H t k A n)(_:Q (.bl (n.cp c)) H)
def qF(a:Ad):Sp:=fun vs H Q _=>qM a vs H Q
theorem pN:ao ["self","count"] ["self","count"] (ai fE):=⟨rfl,rfl,rfl,by decide +kernel,rfl,by decide +kernel,by decide +kernel⟩
theorem pW(T:Txt K mg a):aZ P w K mg base cG 2 (a.f 53) (a.d 53) ["self","count"] (qF a):=by
 refine T.Innings.jD.F.ok pN (fun vs H Q E h=>?_) (fun cdv A outer s H vs Q E hr h=>?_)
 ·obtain⟨t,k,A,n,c,rfl,_⟩:=h;rfl
 ·obtain⟨t,k,A,n,c,rfl,I,k0⟩:=h;have e:n.cp c=(decide (((A.os.map V.ref).length:Int)=(c:Int))&&!n.jm):=by rw[List.length_map,I.overs.len,dI];rfl
  rw[e]at k0;refine⟨_,(ag (ay (du (bP (bx (ba aP rfl T.fn.c8 PySem.boot_len (aK (af (pv 0) rfl) ah)) (pv 1))) (eE (Bf (az (pv 0) T.Innings.cl T.Innings.bQ (c5 T) (hr.mono (by decide)) T.Innings.cx.b .nil au )))))),?_⟩;exact⟨_,rfl,_,_,_,_,_,rfl,I.ob,T.Innings.cl,T.Innings.dz,a9,_,_,rfl,.inl (bD.of I.overs.lst),_,rfl,_,_,rfl,rfl,_,rfl,kd k0 fun k0=>⟨_,rfl,_,_,_,rfl,I.ob,cD,_,_,_,_,rfl,I,_,rfl,k0⟩⟩
end
end Sb
namespace Sb
open PySem L2
section
variable{P:Program}{w:World}{K:PySem.W.Frag}{mg:Str→Option Value}{base:Heap}{a:Ad}
theorem zp{X:Cx}{K:PySem.W.Frag}{e:Expr}{f:Str}{pos:Pos}{ta:TE}(hK:X.K=K)(he:PE X e ta)(hb:attributeBase e f X.env (eval e X.env)=eval e X.env):PE X (.Attribute e f pos) (IT K ta f):=by
 subst hK;exact af he hb
theorem zI{l D:Addr}{ps:List Addr}{g:TG}{tt:TT}{te:TE}{vs:List Nat}{σ:L2.St}{H:Hp}{Qd:Hp→Prop}(f:List (Option V))(hl:H l=some (.lst (ps.map V.ref)))(hD:H D=none)(hf:f.length=ps.length)(hz:ps.length<sizeLine)
  (hs:∀(i:Nat)(p:Addr)(acc:List V)(R:V→Hp→Prop)(R':Hp→Prop),ps[i]?=some p→(∀ b o,H b=some o→(upd H D (.lst acc)) b=some o)→(∀ y,f[i]?=some (some y)→R y (upd H D (.lst acc)))→(f[i]?=some none→R' (upd H D (.lst acc)))→
   g (.ref p) (wipe σ vs) (upd H D (.lst acc)) fun σ2 H2=>wipe σ2 vs=wipe σ vs∧tt σ2 H2 fun b H3=>if b=true then te σ2 H3 R else R' H3)
  (hd:Qd (upd H D (.lst (f.filterMap id)))) :
  ∃ W:Nat→Nat→Hp→Prop,(∃ m,W 0 m (upd H D (.lst [])))∧∀ i m H,W i m H→
   ((Nz K l).stop i H∧Qd H)∨((Nz K l).go i H∧∃ Nx:Hp→Prop,(∀ H',Nx H'→∃ m',m'<m∧W (i+1) m' H')∧∀ x H',(Nz K l).Pq i H x H'→g x (wipe σ vs) H' fun σ2 H2=>wipe σ2 vs=wipe σ vs∧tt σ2 H2 fun b H3=>
    if b=true then te σ2 H3 fun y H4=>∃ acc,H4 D=some (.lst acc)∧acc.length<sizeLine∧Nx (upd H4 D (.lst (acc++[y])))else Nx H3):=by
 have nl:l≠D:=aQ hl hD;refine LN (K:=K) (a:=l) (xs:=ps.map V.ref) (fun i H2=>H2=upd H D (.lst ((f.take i).filterMap id))) rfl (fun i H2 _ e=>?_) (fun i x H2 hx e=>?_) (fun H2 e=>?_)
 ·rw[e];exact bD.of ((ax nl).trans hl)
 ·obtain⟨p,hp,rfl⟩:∃ p,ps[i]?=some p∧x=V.ref p:=by
   rw[List.getElem?_map]at hx
   cases q:ps[i]? with
   |none=>rw[q]at hx;cases hx
   |some p=>rw[q]at hx;exact⟨p,rfl,(Option.some.inj hx).symm⟩
  rw[e];refine hs i p _ _ _ hp (fun b o h=>(ax (aQ h hD)).trans h) (fun y hy=>⟨_,aa,Qu (n:=ps.length) (by omega) hz,?_⟩) (fun hn=>?_)
  ·exact OT hy
  ·rw[OF hn]
 ·rw[e,List.length_map,←hf,List.take_length];exact hd
theorem Ht{α:Type}{f:Addr→α→Option V}{ps:List Addr}{xs:List α}{i:Nat}{p:Addr}{x:α}(h1:ps[i]?=some p)(h2:xs[i]?=some x):(List.zipWith f ps xs)[i]?=some (f p x):=by
 rw[List.getElem?_zipWith,h1,h2]
theorem Ih{α:Type}{f:Addr→α→Option V}{ps:List Addr}{xs:List α}(h:ps.length=xs.length):(List.zipWith f ps xs).length=ps.length:=by
 rw[List.length_zipWith,h];omega
theorem DW{α:Type}{c:α→Bool}:∀{ps:List Addr}{xs:List α},ps.length=xs.length→((List.zipWith (fun p x=>if c x=true then some (V.ref p)else none) ps xs).filterMap id).length=(xs.filter c).length
 |[],[],_=>rfl
 |[],_::_,h=>by simp at h
 |_::_,[],h=>by simp at h
 |p::ps,x::xs,h=>by
  have ih:=DW (c:=c) (ps:=ps) (xs:=xs) (by simpa using h);rw[List.zipWith_cons_cons,List.filter_cons]
  cases q:c x
  ·simp[ih]
  ·simp[ih]
theorem N3{α:Type}{c:α→V}:∀{ps:List Addr}{xs:List α},ps.length=xs.length→(List.zipWith (fun(_:Addr) x=>some (c x)) ps xs).filterMap id=xs.map c
 |[],[],_=>rfl
 |[],_::_,h=>by simp at h
 |_::_,[],h=>by simp at h
 |p::ps,x::xs,h=>by
  have ih:=N3 (c:=c) (ps:=ps) (xs:=xs) (by simpa using h);rw[List.zipWith_cons_cons];simp[ih]
theorem Objs.R1{α:Type}{O:α→HO→Prop}{H:Hp}{t:Tag}{l:Addr}{ps:List Addr}{xs:List α}(h:Objs O H t l ps xs){j:Nat}{p:Addr}(hp:ps[j]?=some p):∃ x o,xs[j]?=some x∧t p=0∧H p=some o∧O x o:=by
 have hj:j<xs.length:=by rw[←h.len];exact (List.getElem?_eq_some_iff.mp hp).1
 obtain⟨ht,o,ho,hO⟩:=h.at_ j p xs[j] hp (List.getElem?_eq_getElem hj);exact⟨xs[j],o,List.getElem?_eq_getElem hj,ht,ho,hO⟩
structure HY(n:N.ak):Prop where
 overs:n.overs.length<1000000
 told:n.told.length<1000000
 falls:n.falls.length<1000000
 stands:n.stands.length<1000000
 bats:n.bats.length=11
 aI:n.aI.length=11
theorem m5{n:Nat}(h:n<1000000):n<sizeLine:=Nat.lt_trans h (by decide)
def Ao(a:Ad)(H:Hp)(t:Tag)(k:Nat)(A:cO)(n':N.ak)(R:Hp→Prop):Prop:=∀ H' t' A',A'.p=A.p→Step (inR k) H t H' t'→bf a H' t' k A' n'→R H'
inductive zA(a:Ad)(vs:List V)(H:Hp)(Q:VK):Prop
 |mk(t:Tag)(k:Nat)(A:cO)(n:N.ak)(_:vs=[.ref A.p])(_:bf a H t k A n)(_:HY n)(_:∀ H',a6 H H'→Q (.int n.jO) H')
def yY(a:Ad):Sp:=fun vs H Q _=>zA a vs H Q
theorem kq:ao ["self","batter"] ["self"] (ai lr):=⟨rfl,rfl,rfl,by decide +kernel,rfl,by decide +kernel,by decide +kernel⟩
theorem pM(T:Txt K mg a):aZ P w K mg base cG 1 (a.f 41) (a.d 41) ["self"] (yY a):=by
 refine T.Innings.lG.F.ok kq (fun vs H Q E h=>?_) (fun cdv A outer s H vs Q E hr h=>?_)
 ·obtain⟨t,k,A,n,rfl,_⟩:=h;rfl
 ·obtain⟨t,k,A,n,rfl,I,fw,k0⟩:=h;refine⟨_,(ag (ay (ba aP rfl T.fn.c8 PySem.boot_len (aK (B3 rfl kq.nd (uV (af (pv 0) rfl)) (lL (own:=[("batter",1)]) (by kernel_rfl)) (fun _ _ _ _ _=>mY (i:=1) kq.nd rfl (Or.inl rfl)) (fun _ _ _ _ _=>by exact (HK (aT (kT (zp (K:=K) rfl (pv 1) rfl) aj)))) (fun _ _ _ _ _=>by exact (pv 1))) ah)))),?_⟩
  have hlen:=I.bats.len;refine⟨_,rfl,_,_,_,_,_,rfl,I.ob,T.Innings.cl,T.Innings.cH,bq,_,rfl,⟨_,bD.of I.bats.lst⟩,fun D hD=>zI (K:=K) (List.zipWith (fun p (x:Sh11.Bat)=>if decide (0<x.place)=true then some (V.ref p)else none) A.bs n.bats) I.bats.lst hD (Ih hlen) (m5 (by rw[hlen,fw.bats];decide)) (fun i p acc R R' hp kp hy hn=>?_) ?_⟩
  ·obtain⟨x,o,hx,ht,ho,dx,rfl⟩:=I.bats.R1 hp;have ho2:=kp _ _ ho;have hz:=Ht (f:=fun p (x:Sh11.Bat)=>if decide (0<x.place)=true then some (V.ref p)else none) hp hx;refine⟨rfl,_,rfl,_,_,_,_,_,rfl,ho2,T.aE.cl,T.aE.oX,gC,_,_,rfl,rfl,_,rfl,?_⟩;by_cases hc:0<x.place
   ·exact bH (decide_eq_true (by omega)) ⟨_,rfl,hy _ (by rw[hz,if_pos (decide_eq_true hc)])⟩
   ·exact cw (decide_eq_false (by omega)) (hn (by rw[hz,if_neg (by simp[hc])]))
  ·refine⟨_,_,rfl,.inl (bD.of aa),?_⟩;rw[DW (c:=fun x:Sh11.Bat=>decide (0<x.place)) hlen];exact k0 _ (aA hD)
inductive mG(a:Ad)(vs:List V)(H:Hp)(Q:VK):Prop
 |mk(t:Tag)(k:Nat)(A:cO)(n:N.ak)(_:vs=[.ref A.p])(_:bf a H t k A n)(_:HY n)(_:∀ H',a6 H H'→Q (.bl n.dD) H')
def l7(a:Ad):Sp:=fun vs H Q _=>mG a vs H Q
theorem dw:ao ["self","batter"] ["self"] (ai dF):=⟨rfl,rfl,rfl,by decide +kernel,rfl,by decide +kernel,by decide +kernel⟩
theorem l6(T:Txt K mg a):aZ P w K mg base cG 2 (a.f 45) (a.d 45) ["self"] (l7 a):=by
 refine T.Innings.gD.F.ok dw (fun vs H Q E h=>?_) (fun cdv A outer s H vs Q E hr h=>?_)
 ·obtain⟨t,k,A,n,rfl,_⟩:=h;rfl
 ·obtain⟨t,k,A,n,rfl,I,fw,k0⟩:=h;refine⟨_,(ag (ay (ba (QO rfl) rfl T.fn.Oc PyProof.Rows.boot_any (aK (B3 rfl dw.nd (uV (af (pv 0) rfl)) (lL (own:=[("batter",1)]) (by kernel_rfl)) (fun _ _ _ _ _=>mY (i:=1) dw.nd rfl (Or.inl rfl)) (fun _ _ _ _ _=>by exact xC) (fun _ _ _ _ _=>by exact (az (pv 1) T.aE.cl T.aE.dS (mj T) (hr.mono (by decide)) T.aE.iY.b .nil au ))) ah)))),?_⟩
  have hlen:=I.bats.len;refine⟨_,rfl,_,_,_,_,_,rfl,I.ob,T.Innings.cl,T.Innings.cH,bq,_,rfl,⟨_,bD.of I.bats.lst⟩,fun D hD=>zI (K:=K) (List.zipWith (fun(_:Addr) (x:Sh11.Bat)=>some (V.bl (aq.bI x))) A.bs n.bats) I.bats.lst hD (Ih hlen) (m5 (by rw[hlen,fw.bats];decide)) (fun i p acc R R' hp kp hy hn=>?_) ?_⟩
  ·obtain⟨x,o,hx,ht,ho,dx,rfl⟩:=I.bats.R1 hp;have ho2:=kp _ _ ho;have hz:=Ht (f:=fun(_:Addr) (x:Sh11.Bat)=>some (V.bl (aq.bI x))) hp hx;exact⟨rfl,_,rfl,_,_,_,rfl,ho2,kU,_,_,_,rfl,ho2,hy _ hz⟩
  ·rw[N3 hlen];refine⟨_,n.bats.map aq.bI,rfl,bD.of (by rw[aa,List.map_map];rfl),?_⟩;have e:(n.bats.map aq.bI).any id=n.dD:=by rw[List.any_map];rfl
   rw[e];exact k0 _ (aA hD)
inductive kF(a:Ad)(vs:List V)(H:Hp)(Q:VK):Prop
 |mk(t:Tag)(k:Nat)(A:cO)(n:N.ak)(_:vs=[.ref A.p])(_:bf a H t k A n)(_:HY n)(_:∀ H',a6 H H'→Q (.bl (decide (n.jO<11))) H')
def jQ(a:Ad):Sp:=fun vs H Q _=>kF a vs H Q
theorem jY:ao ["self"] ["self"] (ai cR):=⟨rfl,rfl,rfl,by decide +kernel,rfl,by decide +kernel,by decide +kernel⟩
theorem j1(T:Txt K mg a):aZ P w K mg base cG 2 (a.f 46) (a.d 46) ["self"] (jQ a):=by
 refine T.Innings.fb.F.ok jY (fun vs H Q E h=>?_) (fun cdv A outer s H vs Q E hr h=>?_)
 ·obtain⟨t,k,A,n,rfl,_⟩:=h;rfl
 ·obtain⟨t,k,A,n,rfl,I,fw,k0⟩:=h;refine⟨_,(ag (ay (bP (yo (az (pv 0) T.Innings.cl T.Innings.fP (pM T) (hr.mono (by decide)) T.Innings.lG.b .nil au ) (aN rfl T.fn.gz))))),?_⟩;refine⟨_,rfl,_,_,_,rfl,I.ob,nu,_,_,_,_,rfl,I,fw,fun H1 s1=>⟨_,_,rfl,rfl,?_⟩⟩;have k1:=k0 H1 s1;rw[←dT]at k1;exact k1
inductive yI(a:Ad)(vs:List V)(H:Hp)(Q:VK):Prop
 |mk(t:Tag)(k:Nat)(A:cO)(n:N.ak)(pl:Nat)(_:vs=[.ref A.p,.int pl])(_:bf a H t k A n)(_:HY n)(_:∀ H',a6 H H'→Q (.int (n.LW pl)) H')
def yg(a:Ad):Sp:=fun vs H Q _=>yI a vs H Q
theorem jM:ao ["self","player","over"] ["self","player"] (ai kL):=⟨rfl,rfl,rfl,by decide +kernel,rfl,by decide +kernel,by decide +kernel⟩
theorem yl(T:Txt K mg a):aZ P w K mg base cG 1 (a.f 51) (a.d 51) ["self","player"] (yg a):=by
 refine T.Innings.pH.F.ok jM (fun vs H Q E h=>?_) (fun cdv A outer s H vs Q E hr h=>?_)
 ·obtain⟨t,k,A,n,pl,rfl,_⟩:=h;rfl
 ·obtain⟨t,k,A,n,pl,rfl,I,fw,k0⟩:=h;refine⟨_,(ag (ay (ba aP rfl T.fn.c8 PySem.boot_len (aK (B3 rfl jM.nd (uV (af (pv 0) rfl)) (lL (own:=[("over",2)]) (by kernel_rfl)) (fun _ _ _ _ _=>mY (i:=2) jM.nd rfl (Or.inl rfl)) (fun _ _ _ _ _=>by exact (HK (aT (bx (zp (K:=K) rfl (pv 2) rfl) (pv 1))))) (fun _ _ _ _ _=>by exact (pv 2))) ah)))),?_⟩
  have hlen:=I.overs.len;refine⟨_,rfl,_,_,_,_,_,rfl,I.ob,T.Innings.cl,T.Innings.dz,a9,_,rfl,⟨_,bD.of I.overs.lst⟩,fun D hD=>zI (K:=K) (List.zipWith (fun p (x:N.Over)=>if decide (x.bowler=pl)=true then some (V.ref p)else none) A.os n.overs) I.overs.lst hD (Ih hlen) (m5 (by rw[hlen];exact fw.overs)) (fun i p acc R R' hp kp hy hn=>?_) ?_⟩
  ·obtain⟨x,o,hx,ht,ho,dx,rfl⟩:=I.overs.R1 hp;have ho2:=kp _ _ ho;have hz:=Ht (f:=fun p (x:N.Over)=>if decide (x.bowler=pl)=true then some (V.ref p)else none) hp hx;refine⟨rfl,_,rfl,_,_,_,_,_,rfl,ho2,T.Over.cl,T.Over.fV,jZ,_,rfl,_,_,rfl,rfl,_,rfl,?_⟩;by_cases hc:x.bowler=pl
   ·exact bH (decide_eq_true (by omega)) ⟨_,rfl,hy _ (by rw[hz,if_pos (decide_eq_true hc)])⟩
   ·exact cw (decide_eq_false (by omega)) (hn (by rw[hz,if_neg (by simp[hc])]))
  ·refine⟨_,_,rfl,.inl (bD.of aa),?_⟩;rw[DW (c:=fun x:N.Over=>decide (x.bowler=pl)) hlen];exact k0 _ (aA hD)
end
end Sb
namespace Sb
open PySem L2
section
variable{P:Program}{w:World}{K:PySem.W.Frag}{mg:Str→Option Value}{base:Heap}{a:Ad}
theorem js{n j:Nat}(h:j<n):Mv n (j:Int)=some j:=by
 unfold Mv;rw[if_pos (by omega),if_pos (by omega)];simp
theorem DQ{n:Nat}:Mv (n+1) (-1)=some n:=by
 unfold Mv;rw[if_neg (by decide),if_pos (by omega)]
 congr 1
 omega
theorem kh{α:Type}{f:α→α}{l:List α}{j:Nat}{x:α}(h:l[j]?=some x):l.modify j f=l.set j (f x):=by
 apply List.ext_getElem?;intro i;rw[aq.dG];by_cases e:j=i
 ·subst e;rw[if_pos rfl,h,List.getElem?_set_self (List.getElem?_eq_some_iff.mp h).1];rfl
 ·rw[if_neg e,List.getElem?_set_ne e]
theorem Gw{α:Type}{f:α→α}{l:List α}{x:α}:aq.gI f (l++[x])=(l++[x]).set l.length (f x):=by
 rw[aq.ie];simp
theorem a6.fr{H H':Hp}{t:Tag}(s:a6 H H')(f:Fr H t):Fr H' t:=fun b e=>f b (s.free e)
theorem tM{t:Tag}{l:Addr}{k j:Nat}(h:t l=8*(k+1)+j):t l≠0:=by omega
theorem Ao.go{H:Hp}{t:Tag}{k:Nat}{A:cO}{n':N.ak}{R:Hp→Prop}(h:Ao a H t k A n' R){H':Hp}{t':Tag}{A':cO}(I:bf a H' t' k A' n')(s:Step (inR k) H t H' t')(e:A'.p=A.p):R H':=h H' t' A' e s I
theorem xD{A:cO}{n:N.ak}(q:Addr)(x y:Nat):aw "ends" (.ref q) (aC A n)=aC { A with ends:=q } { n with e0:=x,e1:=y }:=by kernel_rfl
inductive xk(a:Ad)(vs:List V)(H:Hp)(Q:VK):Prop
 |mk(t:Tag)(k:Nat)(A:cO)(n:N.ak)(x:Sh11.Bat)(pl:Nat)(_:vs=[.ref A.p,.int pl])(_:bf a H t k A n)(_:Fr H t)(_:HY n)(_:n.bats[pl]?=some x)(_:Ao a H t k A (n.bG pl) (Q .non))
def vw(a:Ad):Sp:=fun vs H Q _=>xk a vs H Q
theorem iw:ao ["self","player","place"] ["self","player"] (ai iV):=⟨rfl,rfl,rfl,by decide +kernel,rfl,by decide +kernel,by decide +kernel⟩
theorem il(T:Txt K mg a):aZ P w K mg base cG 4 (a.f 40) (a.d 40) ["self","player"] (vw a):=by
 refine T.Innings.fU.F.ok iw (fun vs H Q E h=>?_) (fun cdv A outer s H vs Q E hr h=>?_)
 ·obtain⟨t,k,A,n,x,pl,rfl,_⟩:=h;rfl
 ·obtain⟨t,k,A,n,x,pl,rfl,I,fr,fw,hx,k0⟩:=h;refine⟨_,(ae (aX (i:=2) iw.nd rfl (Or.inl rfl) (af (aM aD (af (pv 0) rfl) (pv 1) (fun _ _=>rfl)) rfl)) (ae (bN (aT (bx (pv 2) aj)) (ag (aX (i:=2) iw.nd rfl (Or.inl rfl) (bM cN (az (pv 0) T.Innings.cl T.Innings.fP (pM T) (hr.mono (by decide)) T.Innings.lG.b .nil au ) aj))) aY) (ag (nP (aU (aM aD (af (pv 0) rfl) (pv 1) (fun _ _=>rfl)) T.aE.cl T.aE.mQ (DJ T) (hr.mono (by decide)) T.aE.yy.b au (aK (pv 2) ah)) (oz (af (pv 0) rfl) (pv 1) set_list))))),?_⟩;obtain⟨p0,o0,hp0,ht0,ho0,dx0,rfl⟩:=I.bats.get hx;refine⟨_,rfl,_,_,_,_,_,rfl,I.ob,T.Innings.cl,T.Innings.cH,bq,_,rfl,_,_,_,_,rfl,rfl,bD.of I.bats.lst,ar (fe hp0),_,_,_,_,_,rfl,ho0,T.aE.cl,T.aE.oX,gC,?_⟩;refine⟨_,rfl,_,_,rfl,rfl,_,rfl,?_⟩;refine eM (fun h=>?_) (fun h=>?_)
  ·have h0:x.place=0:=by have:=iA h;omega
   refine⟨_,rfl,_,_,_,rfl,I.ob,nu,_,_,_,_,rfl,I,fw,fun H1 s1=>⟨_,_,rfl,rfl,?_⟩⟩;have hpv:(if x.place=0 then n.jO+1 else x.place)=n.jO+1:=if_pos h0;have I1:=I.same s1;have fr1:Fr H1 t:=a6.fr s1 fr;obtain⟨p1,o1,hp1,ht1,ho1,dx1,rfl⟩:=I1.bats.get hx;refine⟨_,rfl,_,_,_,_,_,rfl,I1.ob,T.Innings.cl,T.Innings.cH,bq,_,rfl,_,_,_,_,rfl,rfl,bD.of I1.bats.lst,ar (fe hp1),_,_,_,rfl,ho1,sH,_,rfl,_,_,_,(n.jO+1),rfl,ho1,fun H2 q dq s2 nq hq=>?_⟩;have I2:=I1.same s2;refine⟨_,rfl,_,_,_,_,_,rfl,I2.ob,T.Innings.cl,T.Innings.cH,bq,_,rfl,_,_,_,_,rfl,rfl,I2.bats.lst,js (by rw[List.length_map,I2.bats.len];exact (List.getElem?_eq_some_iff.mp hx).1),?_⟩;obtain⟨I3,st⟩:=I2.Dq (I2.bats.set (j:=pl) (x:=N.kf (n.jO+1) x) (List.getElem?_eq_some_iff.mp hx).1 (fr1 q nq) (tM I2.gk) hq ⟨dq,rfl⟩);have e:n.bG pl={ n with bats:=n.bats.set pl (N.kf (n.jO+1) x) }:=by
    unfold N.ak.bG;rw[kh hx,hpv]
   rw[e]at k0;exact k0.go I3 ((Step.same (s1.trans s2)).trans st) rfl
  ·have h0:x.place≠0:=fun z=>h (decide_eq_true (by rw[z];rfl))
   have hpv:(if x.place=0 then n.jO+1 else x.place)=x.place:=if_neg h0;have s0:a6 H H:=a6.refl H;have I1:=I.same s0;have fr1:Fr H t:=a6.fr s0 fr;obtain⟨p1,o1,hp1,ht1,ho1,dx1,rfl⟩:=I1.bats.get hx;refine⟨_,rfl,_,_,_,_,_,rfl,I1.ob,T.Innings.cl,T.Innings.cH,bq,_,rfl,_,_,_,_,rfl,rfl,bD.of I1.bats.lst,ar (fe hp1),_,_,_,rfl,ho1,sH,_,rfl,_,_,_,x.place,rfl,ho1,fun H2 q dq s2 nq hq=>?_⟩;have I2:=I1.same s2;refine⟨_,rfl,_,_,_,_,_,rfl,I2.ob,T.Innings.cl,T.Innings.cH,bq,_,rfl,_,_,_,_,rfl,rfl,I2.bats.lst,js (by rw[List.length_map,I2.bats.len];exact (List.getElem?_eq_some_iff.mp hx).1),?_⟩;obtain⟨I3,st⟩:=I2.Dq (I2.bats.set (j:=pl) (x:=N.kf x.place x) (List.getElem?_eq_some_iff.mp hx).1 (fr1 q nq) (tM I2.gk) hq ⟨dq,rfl⟩);have e:n.bG pl={ n with bats:=n.bats.set pl (N.kf x.place x) }:=by
    unfold N.ak.bG;rw[kh hx,hpv]
   rw[e]at k0;exact k0.go I3 ((Step.same (s0.trans s2)).trans st) rfl
inductive wX(a:Ad)(vs:List V)(H:Hp)(Q:VK):Prop
 |mk(t:Tag)(k:Nat)(A:cO)(n:N.ak)(pl:Nat)(_:vs=[.ref A.p,.int pl])(_:bf a H t k A n)(_:Fr H t)(_:HY n)(_:Ao a H t k A (n.cj pl) (Q .non))
def vz(a:Ad):Sp:=fun vs H Q _=>wX a vs H Q
theorem vH:ao ["self","player"] ["self","player"] (ai jb):=⟨rfl,rfl,rfl,by decide +kernel,rfl,by decide +kernel,by decide +kernel⟩
theorem vp(T:Txt K mg a):aZ P w K mg base cG 3 (a.f 52) (a.d 52) ["self","player"] (vz a):=by
 refine T.Innings.nj.F.ok vH (fun vs H Q E h=>?_) (fun cdv A outer s H vs Q E hr h=>?_)
 ·obtain⟨t,k,A,n,pl,rfl,_⟩:=h;rfl
 ·obtain⟨t,k,A,n,pl,rfl,I,fr,fw,k0⟩:=h;refine⟨_,(ag (br (Am PySem.F.plainAttrs_list PySem.F.slot_list_append PySem.F.type_list_append mI (af (pv 0) rfl) (aK (dh T.Over.vg (Av T) (hr.mono (by decide)) rfl T.Over.AF T.Over.v8.b au (aK (pv 1) (aK (ba aP rfl T.fn.c8 PySem.boot_len (aK (af (pv 0) rfl) ah)) (aK aj (aK aj ah))))) ah)))),?_⟩;refine⟨_,rfl,_,_,_,_,_,rfl,I.ob,T.Innings.cl,T.Innings.dz,a9,.inl ⟨rfl,_,bD.of I.overs.lst⟩,_,rfl,_,rfl,_,_,_,_,_,rfl,I.ob,T.Innings.cl,T.Innings.sh,fi,_,_,rfl,.inl (bD.of I.told),fun q dq hq hdq _=>⟨q,dq,pl,(n.told.map fun b=>V.str (strOf b)).length,0,0,rfl,aa,rfl,?_⟩⟩;have s1:a6 H _:=cJ (C:=a.c 3) (fs:=[]) (gs:=rH ⟨pl,(n.told.map fun b=>V.str (strOf b)).length,0,0⟩) hq hdq;have I1:=I.same s1;refine⟨_,_,_,rfl,rfl,I1.overs.lst,m5 (by rw[List.length_map,I1.overs.len];exact fw.overs),?_⟩;obtain⟨I2,st⟩:=I1.E7 (I1.overs.app (x:=⟨pl,(n.told.map fun b=>V.str (strOf b)).length,0,0⟩) (fr q hq) (tM I1.dj) aa ⟨dq,rfl⟩);have e:n.cj pl={ n with overs:=n.overs++[⟨pl,(n.told.map fun b=>V.str (strOf b)).length,0,0⟩] }:=by rw[List.length_map];rfl
  rw[e]at k0;exact k0.go I2 ((Step.same s1).trans st) rfl
inductive vr(a:Ad)(vs:List V)(H:Hp)(Q:VK):Prop
 |mk(t:Tag)(k:Nat)(A:cO)(n:N.ak)(_:vs=[.ref A.p])(_:bf a H t k A n)(_:Ao a H t k A n.c9 (Q .non))
def uP(a:Ad):Sp:=fun vs H Q _=>vr a vs H Q
theorem uX:ao ["self"] ["self"] (ai iD):=⟨rfl,rfl,rfl,by decide +kernel,rfl,by decide +kernel,by decide +kernel⟩
theorem lS(T:Txt K mg a):aZ P w K mg base cG 1 (a.f 55) (a.d 55) ["self"] (uP a):=by
 refine T.Innings.iC.F.ok uX (fun vs H Q E h=>?_) (fun cdv A outer s H vs Q E hr h=>?_)
 ·obtain⟨t,k,A,n,rfl,_⟩:=h;rfl
 ·obtain⟨t,k,A,n,rfl,I,k0⟩:=h;refine⟨_,(ag (aW (pv 0) (bO (aK (aM aD (af (pv 0) rfl) aj (fun _ _=>rfl)) (aK (aM aD (af (pv 0) rfl) aj (fun _ _=>rfl)) ah))) rfl)),?_⟩;refine⟨_,rfl,_,_,_,_,_,rfl,I.ob,T.Innings.cl,T.Innings.dP,bh,_,_,_,_,rfl,rfl,bD.of I.ends,ar (j:=1) rfl,_,rfl,_,_,_,_,_,rfl,I.ob,T.Innings.cl,T.Innings.dP,bh,_,_,_,_,rfl,rfl,bD.of I.ends,ar (j:=0) rfl,(by show 2≤sizeLine;decide),fun q hq=>?_⟩;have st1:Step (fun _=>False) H t (upd H q (.lst [.int n.e1,.int n.e0])) (cn t q (8*(k+1)+1)):=Step.new _ hq;have I1:=I.step st1 (fun h=>h) (fun _ _ h=>h);refine⟨_,rfl,_,_,_,_,rfl,I1.ob,T.Innings.cl,T.Innings.dP,bu,?_⟩;obtain⟨I2,st2⟩:=I1.Dw (q:=q) (x:=n.e1) (y:=n.e0) aa ck;rw[xD q n.e1 n.e0];exact k0.go I2 ((st1.mono fun _ h=>h.elim).trans st2) rfl
inductive sC(a:Ad)(vs:List V)(H:Hp)(Q:VK):Prop
 |mk(t:Tag)(k:Nat)(A:cO)(n:N.ak)(m:Nat)(_:vs=[.ref A.p,.int m])(_:bf a H t k A n)(_:Fr H t)(_:Ao a H t k A (n.bK m) (Q .non))
def rE(a:Ad):Sp:=fun vs H Q _=>sC a vs H Q
theorem rK:ao ["self","runs"] ["self","runs"] (ai gH):=⟨rfl,rfl,rfl,by decide +kernel,rfl,by decide +kernel,by decide +kernel⟩
theorem jR(T:Txt K mg a):aZ P w K mg base cG 4 (a.f 62) (a.d 62) ["self","runs"] (rE a):=by
 refine T.Innings.gr.F.ok rK (fun vs H Q E h=>?_) (fun cdv A outer s H vs Q E hr h=>?_)
 ·obtain⟨t,k,A,n,m,rfl,_⟩:=h;rfl
 ·obtain⟨t,k,A,n,m,rfl,I,fr,k0⟩:=h;refine⟨_,(ag (aW (pv 0) (aU (af (pv 0) rfl) T.bB.cl T.bB.fu (uS T) (hr.mono (by decide)) T.bB.mi.b au (aK (pv 1) ah)) rfl)),?_⟩;obtain⟨o,ho,dx,rfl⟩:=I.sums;refine⟨_,rfl,_,_,_,_,_,rfl,I.ob,T.Innings.cl,T.Innings.kE,di,_,_,_,rfl,ho,sk,_,rfl,_,_,_,m,rfl,ho,fun H1 q dq s1 nq hq=>?_⟩;have I1:=I.same s1;refine⟨_,rfl,_,_,_,_,rfl,I1.ob,T.Innings.cl,T.Innings.kE,bu,?_⟩;obtain⟨I2,st2⟩:=I1.Hf (q:=q) (y:=N.v7 m n.sums) hq ⟨dq,rfl⟩ (fr q nq);rw[Ej q (N.v7 m n.sums)];exact k0.go I2 ((Step.same s1).trans st2) rfl
inductive yC(a:Ad)(vs:List V)(H:Hp)(Q:VK):Prop
 |mk(t:Tag)(k:Nat)(A:cO)(n:N.ak)(x:Sh11.Bat)(pl hw bw fd:Nat)(_:vs=[.ref A.p,.int pl,.int hw,.int bw,.int fd])(_:bf a H t k A n)(_:Fr H t)(_:HY n)(_:n.bats[pl]?=some x)(_:Ao a H t k A (n.mU pl hw bw fd) (Q .non))
def x8(a:Ad):Sp:=fun vs H Q _=>yC a vs H Q
theorem xR:ao ["self","player","how","bowler","fielder"] ["self","player","how","bowler","fielder"] (ai kJ):=⟨rfl,rfl,rfl,by decide +kernel,rfl,by decide +kernel,by decide +kernel⟩
theorem oC(T:Txt K mg a):aZ P w K mg base cG 4 (a.f 59) (a.d 59) ["self","player","how","bowler","fielder"] (x8 a):=by
 refine T.Innings.ki.F.ok xR (fun vs H Q E h=>?_) (fun cdv A outer s H vs Q E hr h=>?_)
 ·obtain⟨t,k,A,n,x,pl,hw,bw,fd,rfl,_⟩:=h;rfl
 ·obtain⟨t,k,A,n,x,pl,hw,bw,fd,rfl,I,fr,fw,hx,k0⟩:=h;refine⟨_,(ae (nP (aU (aM aD (af (pv 0) rfl) (pv 1) (fun _ _=>rfl)) T.aE.cl T.aE.mZ (Ek T) (hr.mono (by decide)) T.aE.yA.b au (aK (pv 2) (aK (pv 3) (aK (pv 4) ah)))) (oz (af (pv 0) rfl) (pv 1) set_list)) (ag (bN (aT (nK (pv 2) (aN rfl T.fn.nE))) (ag (br (Am PySem.F.plainAttrs_list PySem.F.slot_list_append PySem.F.type_list_append mI (af (pv 0) rfl) (aK (AV (aK (af (af (pv 0) rfl) rfl) (aK (pv 1) (aK (af (af (pv 0) rfl) rfl) ah)))) ah)))) aY))),?_⟩;obtain⟨p1,o1,hp1,ht1,ho1,dx1,rfl⟩:=I.bats.get hx;refine⟨_,rfl,_,_,_,_,_,rfl,I.ob,T.Innings.cl,T.Innings.cH,bq,_,rfl,_,_,_,_,rfl,rfl,bD.of I.bats.lst,ar (fe hp1),_,_,_,rfl,ho1,BB,_,rfl,_,rfl,_,rfl,_,_,_,hw,bw,fd,rfl,ho1,fun H2 q dq s2 nq hq=>?_⟩;have I2:=I.same s2;refine⟨_,rfl,_,_,_,_,_,rfl,I2.ob,T.Innings.cl,T.Innings.cH,bq,_,rfl,_,_,_,_,rfl,rfl,I2.bats.lst,js (by rw[List.length_map,I2.bats.len];exact (List.getElem?_eq_some_iff.mp hx).1),?_⟩;obtain⟨I3,st⟩:=I2.Dq (I2.bats.set (j:=pl) (x:=N.Ds hw bw fd x) (List.getElem?_eq_some_iff.mp hx).1 (fr q nq) (tM I2.gk) hq ⟨dq,rfl⟩);have st3:=(Step.same (R:=inR k) (t:=t) s2).trans st;have fr3:=st3.fr fr;have e:n.mU pl hw bw fd={ n with bats:=n.bats.set pl (N.Ds hw bw fd x),falls:=if hw=9 then n.falls else n.falls++[⟨n.sums.runs,pl,n.sums.balls⟩] }:=by
   unfold N.ak.mU;rw[kh hx]
  rw[e]at k0;refine⟨_,rfl,_,_,rfl,rfl,_,rfl,?_⟩;refine eM (fun h=>?_) (fun h=>?_)
  ·have h9:hw≠9:=by
    intro z;have h':(!decide ((hw:Int)=9))=true:=h;rw[z]at h';exact absurd h' (by decide)
   rw[if_neg h9]at k0;obtain⟨o4,ho4,dx4,rfl⟩:=I3.sums;refine⟨_,rfl,_,_,_,_,_,rfl,I3.ob,T.Innings.cl,T.Innings.rn,hV,.inl ⟨rfl,_,bD.of I3.falls.lst⟩,_,rfl,_,_,_,_,_,rfl,I3.ob,T.Innings.cl,T.Innings.kE,di,_,_,_,_,_,rfl,ho4,T.bB.cl,T.bB.bz,kY,_,rfl,_,rfl,_,_,_,_,_,rfl,I3.ob,T.Innings.cl,T.Innings.kE,di,_,_,_,_,_,rfl,ho4,T.bB.cl,T.bB.bS,lD,(by show 3≤sizeLine;decide),fun c hc=>?_⟩;have s5:=aA (o:=.tup [.int n.sums.runs,.int pl,.int n.sums.balls]) hc;have I5:=I3.same s5;refine⟨_,_,_,rfl,rfl,I5.falls.lst,m5 (by rw[List.length_map,I5.falls.len];exact fw.falls),?_⟩;obtain⟨I6,st6⟩:=I5.IP (I5.falls.app (x:=⟨n.sums.runs,pl,n.sums.balls⟩) (fr3 c hc) (tM I5.dv) aa rfl);exact k0.go I6 ((st3.trans (Step.same s5)).trans st6) rfl
  ·have h9:hw=9:=by
    have h':¬(!decide ((hw:Int)=9))=true:=h;simp at h';omega
   rw[if_pos h9]at k0;exact k0.go I3 st3 rfl
end
end Sb
namespace Sb
open PySem L2
open Sh11 (Ball)
open aq (extra cF g8 fR bc boundary a7)
section
variable{P:Program}{w:World}{K:PySem.W.Frag}{mg:Str→Option Value}{base:Heap}{a:Ad}
noncomputable def LG(off:Nat):Str:=if off=0 then "" else if off=1 then "b" else "lb"
noncomputable def QR(off runs:Nat):Str:=Str.ofString (toString (runs:Int))++LG off
noncomputable def QW(kind off runs:Nat)(out:Bool):Str:=
 if kind=1 then Str.ofString (toString ((runs+1:Nat):Int))++"wd" else if kind=2 then(if runs=0 then "nb" else "nb+"++QR off runs)else if 0<runs then QR off runs else(if out=true then "" else ".")
noncomputable def wS(kind off runs:Nat)(out:Bool):Str:=QW kind off runs out++(if out=true then("W":Str)else("":Str))
theorem QB:∀(kind off:Fin 3)(runs:Fin 10)(out:Bool),wS kind off runs out=strOf (Sh11.Ball.written ⟨kind,off,runs,0,if out=true then 1 else 0,0,0,0⟩):=by decide +kernel
theorem Q8{b:Ball}(h:aq.ku b):wS b.kind b.off b.runs (decide (b.how≠0))=strOf b.written:=by
 have e:=QB ⟨b.kind,by have:=h.kind;omega⟩ ⟨b.off,by have:=h.off;omega⟩ ⟨b.runs,by have:=h.runs;omega⟩ (decide (b.how≠0));rw[e]
 congr 1
 unfold Sh11.Ball.written;by_cases z:b.how=0<;>simp[z]
theorem zM:∀ r:Fin 11,(Str.ofString (toString ((r.val:Nat):Int))).length≤2∧((r.val:Nat):Int).natAbs.log2<1920:=by decide +kernel
theorem Fb(off:Nat):(LG off).length≤2:=by
 unfold LG;split
 ·decide +kernel
 ·split<;>decide +kernel
theorem m7(x y:Str):(x++y).length=x.length+y.length:=by
 show(x.cps++y.cps).size=_;rw[Array.size_append];rfl
theorem P1{kind off runs:Nat}{out:Bool}(h:runs≤9):(QW kind off runs out).length≤10:=by
 have h1:=(zM ⟨runs+1,by omega⟩).1;have h2:=(zM ⟨runs,by omega⟩).1;have h3:=Fb off;have l1:("wd":Str).length=2:=by decide +kernel
 have l2:("nb":Str).length=2:=by decide +kernel
 have l3:("nb+":Str).length=3:=by decide +kernel
 have l4:("":Str).length=0:=by decide +kernel
 have l5:(".":Str).length=1:=by decide +kernel
 simp only[]at h1 h2;unfold QW QR;split
 ·rw[m7];omega
 ·split
  ·split
   ·omega
   ·rw[m7,m7];omega
  ·split
   ·rw[m7];omega
   ·split<;>omega
theorem xQ{n:Nat}(h:n≤1000):n≤sizeLine:=Nat.le_trans h (by decide)
inductive Df(a:Ad)(vs:List V)(H:Hp)(Q:VK):Prop
 |mk(p dx:Addr)(b:Ball)(_:vs=[.ref p])(_:bW a H p dx b)(_:b.runs≤9)(_:b.off≤2)(_:Q (.str (QR b.off b.runs)) H)
def Bg(a:Ad):Sp:=fun vs H Q _=>Df a vs H Q
theorem BE:ao ["ball"] ["ball"] (ai nR):=⟨rfl,rfl,rfl,by decide +kernel,rfl,by decide +kernel,by decide +kernel⟩
theorem tu(T:Txt K mg a):aZ P w K mg base cG 1 (a.f 18) (a.d 18) ["ball"] (Bg a):=by
 refine T.fn.hW.F.ok BE (fun vs H Q E h=>?_) (fun cdv A outer s H vs Q E hr h=>?_)
 ·obtain⟨p,dx,b,rfl,_⟩:=h;rfl
 ·obtain⟨p,dx,b,rfl,hp,hr9,ho2,k⟩:=h;refine⟨_,(ag (ay (bM tV (gG zv rfl T.fn.LD PyProof.Rows.boot_str (aK (af (pv 0) rfl) ah)) (aM dU (Ge rfl T.fn.wa) (af (pv 0) rfl) (fun _ _=>rfl))))),?_⟩;have n1:=zM ⟨b.runs,by omega⟩;have n2:=Fb b.off;have hat:IA [V.str "",V.str "b",V.str "lb"] ((b.off:Nat):Int)=some (V.str (LG b.off)):=by
   apply ar;have:b.off=0∨b.off=1∨b.off=2:=by omega
   rcases this with e|e|e<;>rw[e]<;>rfl
  exact⟨_,rfl,_,_,_,_,_,rfl,hp,T.Ball.cl,T.Ball.bz,cV,_,rfl,n1.2,_,rfl,_,_,_,_,_,rfl,hp,T.Ball.cl,T.Ball.Cf,qb,_,_,_,_,rfl,rfl,T.fn.xr _,hat,_,_,rfl,rfl,xQ (Nat.le_trans (Nat.add_le_add n1.1 n2) (by decide)),k⟩
inductive D8(a:Ad)(vs:List V)(H:Hp)(Q:VK):Prop
 |mk(p dx:Addr)(b:Ball)(_:vs=[.ref p])(_:bW a H p dx b)(_:b.runs≤9)(_:b.off≤2)(_:b.kind≤2)(_:Q (.str (QW b.kind b.off b.runs (decide (b.how≠0)))) H)
def CM(a:Ad):Sp:=fun vs H Q _=>D8 a vs H Q
theorem CO:ao ["ball"] ["ball"] (ai qK):=⟨rfl,rfl,rfl,by decide +kernel,rfl,by decide +kernel,by decide +kernel⟩
theorem Co(T:Txt K mg a):aZ P w K mg base cG 3 (a.f 17) (a.d 17) ["ball"] (CM a):=by
 refine T.fn.p9.F.ok CO (fun vs H Q E h=>?_) (fun cdv A outer s H vs Q E hr h=>?_)
 ·obtain⟨p,dx,b,rfl,_⟩:=h;rfl
 ·obtain⟨p,dx,b,rfl,hp,hr9,ho2,hk2,k⟩:=h;refine⟨_,(ae (bN (aT (bx (af (pv 0) rfl) (aN rfl T.fn.xi))) (ag (ay (bM tV (gG zv rfl T.fn.LD PyProof.Rows.boot_str (aK (az (pv 0) T.Ball.cl T.Ball.eh (jo T) (hr.mono (by decide)) T.Ball.hX.b .nil au ) ah)) vX))) aY) (ae (bN (aT (bx (af (pv 0) rfl) (aN rfl T.fn.pz))) (ag (ay (dk (aT (bx (af (pv 0) rfl) aj)) vX (bM tV vX (bC (tu T) (hr.mono (by decide)) rfl T.fn.ia T.fn.hW.F.kp T.fn.hW.b au (aK (pv 0) ah)))))) aY) (ae (bN (aT (kT (af (pv 0) rfl) aj)) (ag (ay (bC (tu T) (hr.mono (by decide)) rfl T.fn.ia T.fn.hW.F.kp T.fn.hW.b au (aK (pv 0) ah)))) aY) (ag (ay (dk (aT (bx (af (pv 0) rfl) (aN rfl T.fn.ig))) vX vX)))))),?_⟩;have n1:=zM ⟨b.runs,by omega⟩;have n2:=Fb b.off;have n3:=zM ⟨b.runs+1,by omega⟩;have l1:("wd":Str).length=2:=by decide +kernel
  have l3:("nb+":Str).length=3:=by decide +kernel
  have rl:(QR b.off b.runs).length≤4:=by unfold QR;rw[m7];have:=n1.1;simp only[]at this;omega
  unfold QW at k;refine⟨_,rfl,_,_,_,_,_,rfl,hp,T.Ball.cl,T.Ball.og,fZ,_,_,rfl,rfl,_,rfl,?_⟩;refine eM (fun h=>?_) (fun h=>?_)
  ·have hk:b.kind=1:=by have:=iA h;omega
   rw[if_pos hk]at k;have ea:cF b=b.runs+1:=by unfold cF extra;rw[if_neg (by omega)]
   refine⟨_,rfl,_,_,_,rfl,hp,g7,_,_,_,rfl,hp,_,rfl,?_,_,_,rfl,rfl,?_,?_⟩
   ·rw[ea];exact n3.2
   ·rw[ea];exact xQ (Nat.le_trans (Nat.add_le_add n3.1 (Nat.le_of_eq l1)) (by decide))
   ·rw[ea];exact k
  ·have hk:b.kind≠1:=fun z=>h (decide_eq_true (by rw[z];rfl))
   rw[if_neg hk]at k;refine⟨_,rfl,_,_,_,_,_,rfl,hp,T.Ball.cl,T.Ball.og,fZ,_,_,rfl,rfl,_,rfl,?_⟩;refine eM (fun h=>?_) (fun h=>?_)
   ·have hk:b.kind=2:=by have:=iA h;omega
    rw[if_pos hk]at k;refine⟨_,rfl,_,_,_,_,_,rfl,hp,T.Ball.cl,T.Ball.bz,cV,_,_,rfl,rfl,_,rfl,?_⟩;refine eM (fun h=>?_) (fun h=>?_)
    ·rw[if_pos (by have:=iA h;omega)]at k;exact k
    ·rw[if_neg (fun z=>h (decide_eq_true (by rw[z];rfl)))]at k;exact⟨_,rfl,_,_,_,rfl,hp,hr9,ho2,_,_,rfl,rfl,xQ (by rw[l3];omega),k⟩
   ·have hk:b.kind≠2:=fun z=>h (decide_eq_true (by rw[z];rfl))
    rw[if_neg hk]at k;refine⟨_,rfl,_,_,_,_,_,rfl,hp,T.Ball.cl,T.Ball.bz,cV,_,_,rfl,rfl,_,rfl,?_⟩;refine eM (fun h=>?_) (fun h=>?_)
    ·rw[if_pos (by have:=iA h;omega)]at k;exact⟨_,rfl,_,_,_,rfl,hp,hr9,ho2,k⟩
    ·rw[if_neg (fun z=>h (decide_eq_true (by omega)))]at k;refine⟨_,rfl,_,_,_,_,_,rfl,hp,T.Ball.cl,T.Ball.hZ,cT,_,_,rfl,rfl,_,rfl,?_⟩;refine eM (fun h=>?_) (fun h=>?_)
     ·have hh:b.how=0:=by have:=iA h;omega
      rw[if_neg (by simp[hh])]at k;exact k
     ·have hh:b.how≠0:=fun z=>h (decide_eq_true (by rw[z];rfl))
      rw[if_pos (by simp[hh])]at k;exact k
inductive ML(a:Ad)(vs:List V)(H:Hp)(Q:VK):Prop
 |mk(p dx:Addr)(b:Ball)(_:vs=[.ref p])(_:bW a H p dx b)(_:aq.ku b)(_:Q (.str (strOf b.written)) H)
def Lb(a:Ad):Sp:=fun vs H Q _=>ML a vs H Q
theorem Fg:ao ["ball","wicket"] ["ball"] (ai BN):=⟨rfl,rfl,rfl,by decide +kernel,rfl,by decide +kernel,by decide +kernel⟩
theorem Km(T:Txt K mg a):aZ P w K mg base cG 4 (a.f 16) (a.d 16) ["ball"] (Lb a):=by
 refine T.fn.AO.F.ok Fg (fun vs H Q E h=>?_) (fun cdv A outer s H vs Q E hr h=>?_)
 ·obtain⟨p,dx,b,rfl,_⟩:=h;rfl
 ·obtain⟨p,dx,b,rfl,hp,bo,k⟩:=h;refine⟨_,(ae (aX (i:=1) Fg.nd rfl (Or.inl rfl) (dk (aT (bx (af (pv 0) rfl) (aN rfl T.fn.ig))) vX vX)) (ag (ay (bM tV (bC (Co T) (hr.mono (by decide)) rfl T.fn.lY T.fn.p9.F.kp T.fn.p9.b au (aK (pv 0) ah)) (pv 1))))),?_⟩;rw[←Q8 bo]at k;unfold wS at k;have hl:=P1 (kind:=b.kind) (off:=b.off) (out:=decide (b.how≠0)) bo.runs;have l4:("":Str).length=0:=by decide +kernel
  have l5:("W":Str).length=1:=by decide +kernel
  refine⟨_,rfl,_,_,_,_,_,rfl,hp,T.Ball.cl,T.Ball.hZ,cT,_,_,rfl,rfl,_,rfl,?_⟩;refine eM (fun h=>?_) (fun h=>?_)
  ·have hh:b.how=0:=by have:=iA h;omega
   have e:(if decide (b.how≠0)=true then("W":Str)else "")="":=by rw[if_neg (by simp[hh])]
   rw[e]at k;exact⟨_,rfl,_,_,_,rfl,hp,bo.runs,bo.off,bo.kind,_,rfl,_,_,rfl,rfl,xQ (by omega),k⟩
  ·have hh:b.how≠0:=fun z=>h (decide_eq_true (by rw[z];rfl))
   have e:(if decide (b.how≠0)=true then("W":Str)else "")="W":=by rw[if_pos (by simp[hh])]
   rw[e]at k;exact⟨_,rfl,_,_,_,rfl,hp,bo.runs,bo.off,bo.kind,_,rfl,_,_,rfl,rfl,xQ (by omega),k⟩
inductive FG(a:Ad)(vs:List V)(H:Hp)(Q:VK):Prop
 |mk(p dx:Addr)(b:Ball)(_:vs=[.ref p])(_:bW a H p dx b)(_:b.kind≤2)(_:Q (.bl (N.xx b)) H)
def E1(a:Ad):Sp:=fun vs H Q _=>FG a vs H Q
theorem Ec:ao ["ball"] ["ball"] (ai rB):=⟨rfl,rfl,rfl,by decide +kernel,rfl,by decide +kernel,by decide +kernel⟩
theorem EJ(T:Txt K mg a):aZ P w K mg base cG 2 (a.f 13) (a.d 13) ["ball"] (E1 a):=by
 refine T.fn.rS.F.ok Ec (fun vs H Q E h=>?_) (fun cdv A outer s H vs Q E hr h=>?_)
 ·obtain⟨p,dx,b,rfl,_⟩:=h;rfl
 ·obtain⟨p,dx,b,rfl,hp,hk2,k⟩:=h;refine⟨_,(ae (bN (Pn GJ (af (pv 0) rfl) (aM dU (Ge rfl T.fn.y2) (af (pv 0) rfl) (fun _ _=>rfl)) (by rfl)) (ag (ay pI)) aY) (ae (bN (PW.pt (uU (aT (nK (af (pv 0) rfl) (aN rfl T.fn.ig))) (oV (aT (bx (af (pv 0) rfl) aj))))) (ag (ay pI)) aY) (ae (bN (dR (bC (tJ T) (hr.mono (by decide)) rfl T.fn.eT T.fn.hG.F.kp T.fn.hG.b au (aK (pv 0) ah))) (ag (ay pI)) aY) (ae (bN (PW.pt (uU (aT (nK (af (pv 0) rfl) (aN rfl T.fn.ig))) (oV (aT (nK (af (pv 0) rfl) aj))))) (ag (ay pI)) aY) (ag (ay (du (bP (bx (af (pv 0) rfl) aj)) (eE (bP (bx (af (pv 0) rfl) aj)))))))))),?_⟩;obtain⟨g,l,hat,hl,hfl,hin⟩:∃(g:Addr)(l:List V),IA [V.ref (a.g 10),V.ref (a.g 11),V.ref (a.g 12)] ((b.kind:Nat):Int)=some (V.ref g)∧tK K H g l∧l.all sW=true∧Pe (.int (b.how:Nat)) l=(N.Dr b.kind).contains b.how:=by
   have:b.kind=0∨b.kind=1∨b.kind=2:=by omega
   have key:∀ ns:List Nat,Pe (.int (b.how:Nat)) (ns.map fun(n:Nat)=>V.int (n:Int))=ns.contains b.how:=by
    intro ns
    induction ns with
    |nil=>rfl
    |cons x r ih=>
     show(((x:Int)==(b.how:Int))||Pe (.int (b.how:Nat)) (r.map fun(n:Nat)=>V.int (n:Int)))=_;rw[ih,List.contains_cons]
     congr 1
     rw[Bool.eq_iff_iff];simp;omega
   rcases this with e|e|e
   ·exact⟨a.g 10,_,by rw[e];rfl,T.fn.uz H,rfl,by rw[e];exact key [0,1,2,3,4,5,6,7,8]⟩
   ·exact⟨a.g 11,_,by rw[e];rfl,T.fn.tQ H,rfl,by rw[e];exact key [0,4,5,6,7]⟩
   ·exact⟨a.g 12,_,by rw[e];rfl,T.fn.uQ H,rfl,by rw[e];exact key [0,6,7,8]⟩
  refine⟨_,rfl,_,_,_,_,_,rfl,hp,T.Ball.cl,T.Ball.hZ,cT,_,rfl,_,_,_,_,_,rfl,hp,T.Ball.cl,T.Ball.og,fZ,_,_,_,_,rfl,rfl,T.fn.yM _,hat,_,_,rfl,.inr hl,rfl,hfl,_,rfl,?_⟩;unfold N.xx at k;refine eM (fun h=>?_) (fun h=>?_)
  ·have h':(!Pe (.int (b.how:Nat)) l)=true:=h;rw[hin]at h';rw[if_pos (by simpa using h')]at k;exact k
  ·have h':¬(!Pe (.int (b.how:Nat)) l)=true:=h;rw[hin]at h';rw[if_neg (by simpa using h')]at k;refine⟨_,rfl,_,_,_,_,_,rfl,hp,T.Ball.cl,T.Ball.hZ,cT,_,_,rfl,rfl,_,rfl,(K9 ?k3 fun k=>⟨_,rfl,_,_,_,_,_,rfl,hp,T.Ball.cl,T.Ball.y1,qX,_,_,rfl,rfl,_,rfl,k⟩)⟩;refine eM (fun h=>?_) (fun h=>?_)
   ·rw[if_pos (by simp at h;omega)]at k;exact k
   ·rw[if_neg (by simp at h;omega)]at k;refine⟨_,rfl,_,_,_,rfl,hp,_,rfl,?_⟩;refine eM (fun h=>?_) (fun h=>?_)
    ·rw[if_pos (by simpa using h)]at k;exact k
    ·rw[if_neg (by simpa using h)]at k;refine⟨_,rfl,_,_,_,_,_,rfl,hp,T.Ball.cl,T.Ball.hZ,cT,_,_,rfl,rfl,_,rfl,(K9 ?k4 fun k=>⟨_,rfl,_,_,_,_,_,rfl,hp,T.Ball.cl,T.Ball.bz,cV,_,_,rfl,rfl,_,rfl,k⟩)⟩;refine eM (fun h=>?_) (fun h=>?_)
     ·rw[if_pos (by simp at h;omega)]at k;exact k
     ·rw[if_neg (by simp at h;omega)]at k;have e:(decide (b.out=0)&&decide (b.end_=0))=(decide ((b.out:Int)=(0:Nat))&&decide ((b.end_:Int)=(0:Nat))):=by rw[dI,dI]
      rw[e]at k;exact⟨_,rfl,_,_,_,_,_,rfl,hp,T.Ball.cl,T.Ball.Ce,pL,_,_,rfl,rfl,_,rfl,(kd k fun k=>⟨_,rfl,_,_,_,_,_,rfl,hp,T.Ball.cl,T.Ball.DG,uR,_,_,rfl,rfl,k⟩)⟩
inductive MQ(a:Ad)(vs:List V)(H:Hp)(Q:VK):Prop
 |mk(p dx:Addr)(b:Ball)(_:vs=[.ref p])(_:bW a H p dx b)(_:Q (.bl b.ok) H)
def K0(a:Ad):Sp:=fun vs H Q _=>MQ a vs H Q
theorem Ki:ao ["ball"] ["ball"] (ai AQ):=⟨rfl,rfl,rfl,by decide +kernel,rfl,by decide +kernel,by decide +kernel⟩
theorem Lf(T:Txt K mg a):aZ P w K mg base cG 3 (a.f 10) (a.d 10) ["ball"] (K0 a):=by
 refine T.fn.AM.F.ok Ki (fun vs H Q E h=>?_) (fun cdv A outer s H vs Q E hr h=>?_)
 ·obtain⟨p,dx,b,rfl,_⟩:=h;rfl
 ·obtain⟨p,dx,b,rfl,hp,k⟩:=h;rw[←N.MC]at k;unfold N.HB at k;refine⟨_,(ag (ay (du (bC (x6 T) (hr.mono (by decide)) rfl T.fn.gZ T.fn.kH.F.kp T.fn.kH.b au (aK (pv 0) ah)) (du (bC (IL T) (hr.mono (by decide)) rfl T.fn.uw T.fn.za.F.kp T.fn.za.b au (aK (pv 0) ah)) (du (bC (EJ T) (hr.mono (by decide)) rfl T.fn.mP T.fn.rS.F.kp T.fn.rS.b au (aK (pv 0) ah)) (eE (bC (Dj T) (hr.mono (by decide)) rfl T.fn.lJ T.fn.qA.F.kp T.fn.qA.b au (aK (pv 0) ah)))))))),?_⟩;refine⟨_,rfl,_,_,_,rfl,hp,_,rfl,M9 k fun h1 k=>⟨_,rfl,_,_,_,rfl,hp,_,rfl,kd k fun k=>⟨_,rfl,_,_,_,rfl,hp,?_,_,rfl,kd k fun k=>⟨_,rfl,_,_,_,rfl,hp,k⟩⟩⟩⟩;unfold N.withinP at h1;simp at h1;exact h1.2.1
end
end Sb
namespace Sb
open PySem L2
open Sh11 (Ball)
open aq (extra cF g8 fR bc boundary a7)
section
variable{P:Program}{w:World}{K:PySem.W.Frag}{mg:Str→Option Value}{base:Heap}{a:Ad}
theorem bW.step{R:Nat→Prop}{H H':Hp}{t t':Tag}{p dx:Addr}{b:Ball}(h:bW a H p dx b)(ht:t p=0)(s:Step R H t H' t')(h0:¬R 0):bW a H' p dx b∧t' p=0:=s.ei h0 h ht
inductive zC(a:Ad)(vs:List V)(H:Hp)(Q:VK):Prop
 |mk(t:Tag)(k:Nat)(A:cO)(n:N.ak)(x:Sh11.Bat)(pl:Nat)(_:vs=[.ref A.p,.int pl])(_:bf a H t k A n)(_:Fr H t)(_:HY n)(_:n.stands.length+1<1000000)(_:n.bats[pl]?=some x)(_:n.aH=true)(_:Ao a H t k A (n.gb pl) (Q .non))
def yF(a:Ad):Sp:=fun vs H Q _=>zC a vs H Q
theorem qr:ao ["self","player","empty"] ["self","player"] (ai la):=⟨rfl,rfl,rfl,by decide +kernel,rfl,by decide +kernel,by decide +kernel⟩
theorem yZ(T:Txt K mg a):aZ P w K mg base cG 5 (a.f 47) (a.d 47) ["self","player"] (yF a):=by
 refine T.Innings.rq.F.ok qr (fun vs H Q E h=>?_) (fun cdv A outer s H vs Q E hr h=>?_)
 ·obtain⟨t,k,A,n,x,pl,rfl,_⟩:=h;rfl
 ·obtain⟨t,k,A,n,x,pl,rfl,I,fr,fw,fs,hx,he,k0⟩:=h;refine⟨_,(ae (aX (i:=2) qr.nd rfl (Or.inl rfl) (Am PySem.F.plainAttrs_list PySem.F.slot_list_index PySem.F.type_list_index Nd (af (pv 0) rfl) (aK (aN rfl T.fn.dQ) ah))) (ae (br (Am PySem.F.plainAttrs_list PySem.F.slot_list_append PySem.F.type_list_append mI (af (pv 0) rfl) (aK (dh T.Stand.vg (r9 T) (hr.mono (by decide)) rfl T.Stand.AF T.Stand.oQ.b au (aK (aM aD (af (pv 0) rfl) (bM sg aj (pv 2)) (fun _ _=>rfl)) (aK (pv 1) (aK aj (aK aj ah))))) ah))) (ae (nP (pv 1) (oz (af (pv 0) rfl) (pv 2) set_list)) (ag (br (aU (pv 0) T.Innings.cl T.Innings.c6 (il T) (hr.mono (by decide)) T.Innings.fU.b au (aK (pv 1) ah))))))),?_⟩;by_cases h0:n.e0=11
  ·have hi:=I.ends;rw[h0]at hi;refine⟨_,rfl,_,_,_,_,_,rfl,I.ob,T.Innings.cl,T.Innings.dP,bh,.inl ⟨rfl,_,bD.of hi⟩,_,_,.int 11,0,_,rfl,rfl,bD.of hi,rfl,rfl,rfl,rfl,(fun m z hm=>absurd hm (Nat.not_lt_zero _)),?_⟩;have hh:(n.e0=11)=True:=eq_true h0;refine⟨_,rfl,_,_,_,_,_,rfl,I.ob,T.Innings.cl,T.Innings.jX,dJ,.inl ⟨rfl,_,bD.of I.stands.lst⟩,_,rfl,_,_,_,_,_,rfl,I.ob,T.Innings.cl,T.Innings.dP,bh,_,rfl,_,_,rfl,rfl,_,_,_,_,rfl,rfl,bD.of I.ends,ar (j:=1) rfl,_,rfl,fun q dq hq hdq _=>⟨q,dq,n.e1,pl,0,0,rfl,aa,rfl,?_⟩⟩;have s1:a6 H _:=cJ (C:=a.c 4) (fs:=[]) (gs:=fK ⟨n.e1,pl,0,0⟩) hq hdq;have I1:=I.same s1;refine⟨_,_,_,rfl,rfl,I1.stands.lst,m5 (by rw[List.length_map,I1.stands.len];exact fw.stands),?_⟩;obtain⟨I2,st2⟩:=I1.xF (I1.stands.app (x:=⟨n.e1,pl,0,0⟩) (fr q hq) (tM I1.cg) aa ⟨dq,rfl⟩);refine⟨_,rfl,_,rfl,_,_,_,_,_,rfl,I2.ob,T.Innings.cl,T.Innings.dP,bh,_,rfl,_,_,_,_,rfl,rfl,I2.ends,js (j:=0) (by show 0<2;decide),?_⟩;obtain⟨I3,st3⟩:=I2.rb pl n.e1;have st:=((Step.same (R:=inR k) (t:=t) s1).trans st2).trans st3;have fw3:HY { n with stands:=n.stands++[⟨n.e1,pl,0,0⟩],e0:=pl,e1:=n.e1 }:=⟨fw.overs,fw.told,fw.falls,by simpa using fs,fw.bats,fw.aI⟩
   refine⟨_,rfl,_,_,_,rfl,I3.ob,d4,_,rfl,t,k,{ A with ss:=A.ss++[q] },_,x,pl,rfl,I3,st.fr fr,fw3,hx,fun H4 t4 A4 eA st4 I4=>?_⟩;have e:n.gb pl=N.ak.bG pl { n with stands:=n.stands++[⟨n.e1,pl,0,0⟩],e0:=pl,e1:=n.e1 }:=by
    unfold N.ak.gb;simp only[hh,if_true]
   rw[e]at k0;exact k0.go I4 (st.trans st4) eA
  ·have h1:n.e1=11:=by
    unfold N.ak.aH at he;simp at he;rcases he with z|z
    ·exact absurd z h0
    ·exact z
   have hi:=I.ends;rw[h1]at hi;refine⟨_,rfl,_,_,_,_,_,rfl,I.ob,T.Innings.cl,T.Innings.dP,bh,.inl ⟨rfl,_,bD.of hi⟩,_,_,.int 11,1,_,rfl,rfl,bD.of hi,rfl,rfl,rfl,rfl,?_,?_⟩
   ·intro m z hm hz;have:m=0:=by omega
    subst this;cases hz;show((n.e0:Int)==11)=false;rw[beq_eq_false_iff_ne];omega
   ·have hh:(n.e0=11)=False:=eq_false h0;refine⟨_,rfl,_,_,_,_,_,rfl,I.ob,T.Innings.cl,T.Innings.jX,dJ,.inl ⟨rfl,_,bD.of I.stands.lst⟩,_,rfl,_,_,_,_,_,rfl,I.ob,T.Innings.cl,T.Innings.dP,bh,_,rfl,_,_,rfl,rfl,_,_,_,_,rfl,rfl,bD.of I.ends,ar (j:=0) rfl,_,rfl,fun q dq hq hdq _=>⟨q,dq,n.e0,pl,0,0,rfl,aa,rfl,?_⟩⟩;have s1:a6 H _:=cJ (C:=a.c 4) (fs:=[]) (gs:=fK ⟨n.e0,pl,0,0⟩) hq hdq;have I1:=I.same s1;refine⟨_,_,_,rfl,rfl,I1.stands.lst,m5 (by rw[List.length_map,I1.stands.len];exact fw.stands),?_⟩;obtain⟨I2,st2⟩:=I1.xF (I1.stands.app (x:=⟨n.e0,pl,0,0⟩) (fr q hq) (tM I1.cg) aa ⟨dq,rfl⟩);refine⟨_,rfl,_,rfl,_,_,_,_,_,rfl,I2.ob,T.Innings.cl,T.Innings.dP,bh,_,rfl,_,_,_,_,rfl,rfl,I2.ends,js (j:=1) (by show 1<2;decide),?_⟩;obtain⟨I3,st3⟩:=I2.rb n.e0 pl;have st:=((Step.same (R:=inR k) (t:=t) s1).trans st2).trans st3;have fw3:HY { n with stands:=n.stands++[⟨n.e0,pl,0,0⟩],e0:=n.e0,e1:=pl }:=⟨fw.overs,fw.told,fw.falls,by simpa using fs,fw.bats,fw.aI⟩
    refine⟨_,rfl,_,_,_,rfl,I3.ob,d4,_,rfl,t,k,{ A with ss:=A.ss++[q] },_,x,pl,rfl,I3,st.fr fr,fw3,hx,fun H4 t4 A4 eA st4 I4=>?_⟩;have e:n.gb pl=N.ak.bG pl { n with stands:=n.stands++[⟨n.e0,pl,0,0⟩],e0:=n.e0,e1:=pl }:=by
     unfold N.ak.gb;simp only[hh,if_false]
    rw[e]at k0;exact k0.go I4 (st.trans st4) eA
inductive AI(a:Ad)(vs:List V)(H:Hp)(Q:VK):Prop
 |mk(t:Tag)(k:Nat)(A:cO)(n:N.ak)(x:Sh11.Bat)(en hu:Nat)(_:vs=[.ref A.p,.int en,.int hu])(_:bf a H t k A n)(_:Fr H t)(_:HY n)(_:en≤1)(_:n.bats[if en=0 then n.e0 else n.e1]?=some x)(_:Ao a H t k A (n.retire en hu) (Q .non))
def Ay(a:Ad):Sp:=fun vs H Q _=>AI a vs H Q
theorem z9:ao ["self","end","hurt"] ["self","end","hurt"] (ai mB):=⟨rfl,rfl,rfl,by decide +kernel,rfl,by decide +kernel,by decide +kernel⟩
theorem zV(T:Txt K mg a):aZ P w K mg base cG 5 (a.f 61) (a.d 61) ["self","end","hurt"] (Ay a):=by
 refine T.Innings.sY.F.ok z9 (fun vs H Q E h=>?_) (fun cdv A outer s H vs Q E hr h=>?_)
 ·obtain⟨t,k,A,n,x,en,hu,rfl,_⟩:=h;rfl
 ·obtain⟨t,k,A,n,x,en,hu,rfl,I,fr,fw,he,hx,k0⟩:=h;refine⟨_,(ae (br (aU (pv 0) T.Innings.cl T.Innings.e7 (oC T) (hr.mono (by decide)) T.Innings.ki.b au (aK (aM aD (af (pv 0) rfl) (pv 1) (fun _ _=>rfl)) (aK (dk (aT (bx (pv 2) aj)) (aN rfl T.fn.nE) (aN rfl T.fn.yG)) (aK (aN rfl T.fn.dQ) (aK (aN rfl T.fn.dQ) ah)))))) (ag (nP (aN rfl T.fn.dQ) (oz (af (pv 0) rfl) (pv 1) set_list)))),?_⟩;have hat:IA [V.int (n.e0:Int),V.int (n.e1:Int)] ((en:Nat):Int)=some (.int ((if en=0 then n.e0 else n.e1:Nat):Int)):=by
   apply ar;have:en=0∨en=1:=by omega
   rcases this with e|e<;>rw[e]<;>rfl
  refine⟨_,rfl,_,_,_,rfl,I.ob,iF,_,rfl,_,_,_,_,_,rfl,I.ob,T.Innings.cl,T.Innings.dP,bh,_,rfl,_,_,_,_,rfl,rfl,bD.of I.ends,hat,_,rfl,_,_,rfl,rfl,_,rfl,IV (i:=9) (j:=10) ⟨t,k,A,n,x,_,(if decide ((hu:Int)=(1:Nat))=true then 9 else 10),11,11,rfl,I,fr,fw,hx,fun H1 t1 A1 eA st1 I1=>?_⟩⟩;rw[dI]at I1;have e9:(if decide (hu=1)=true then 9 else 10)=(if hu=1 then 9 else 10):=by by_cases z:hu=1<;>simp[z]
  rw[e9]at I1;refine⟨_,rfl,?_⟩;rw[←eA];refine⟨_,_,_,_,_,rfl,I1.ob,T.Innings.cl,T.Innings.dP,bh,_,rfl,_,_,_,_,rfl,rfl,I1.ends,js (j:=en) (by show en<2;omega),?_⟩;have this:en=0∨en=1:=by omega
  rcases this with e|e
  ·obtain⟨I2,st2⟩:=I1.rb 11 n.e1;subst e;exact k0.go I2 (st1.trans st2) eA
  ·obtain⟨I2,st2⟩:=I1.rb n.e0 11;subst e;exact k0.go I2 (st1.trans st2) eA
end
end Sb
namespace Sb
open PySem L2
open Sh11 (Ball)
open aq (extra cF g8 fR bc boundary a7)
section
variable{P:Program}{w:World}{K:PySem.W.Frag}{mg:Str→Option Value}{base:Heap}{a:Ad}
theorem KL{x y j:Nat}(h:j≤1):IA [V.int (x:Int),V.int (y:Int)] ((j:Nat):Int)=some (.int ((if j=0 then x else y:Nat):Int)):=by
 apply ar;have:j=0∨j=1:=by omega
 rcases this with e|e<;>rw[e]<;>rfl
theorem NU{x y j:Nat}(h:j≤1):IA [V.int (x:Int),V.int (y:Int)] (1-((j:Nat):Int))=some (.int ((if j=0 then y else x:Nat):Int)):=by
 have:j=0∨j=1:=by omega
 rcases this with e|e<;>rw[e]<;>rfl
inductive vq(a:Ad)(vs:List V)(H:Hp)(Q:VK):Prop
 |mk(t:Tag)(k:Nat)(A:cO)(n:N.ak)(x:Sh11.Bat)(pb db:Addr)(b:Ball)(_:vs=[.ref A.p,.ref pb])(_:bf a H t k A n)(_:Fr H t)(_:HY n)(_:bW a H pb db b)(_:t pb=0)(_:b.out≤1)(_:b.end_≤1)(_:n.bats[if b.out=0 then n.e0 else n.e1]?=some x)(_:Ao a H t k A (n.eY b) (Q .non))
def uo(a:Ad):Sp:=fun vs H Q _=>vq a vs H Q
theorem gU:ao ["self","ball","left","bowler"] ["self","ball"] (ai iu):=⟨rfl,rfl,rfl,by decide +kernel,rfl,by decide +kernel,by decide +kernel⟩
theorem va(T:Txt K mg a):aZ P w K mg base cG 5 (a.f 58) (a.d 58) ["self","ball"] (uo a):=by
 refine T.Innings.l9.F.ok gU (fun vs H Q E h=>?_) (fun cdv A outer s H vs Q E hr h=>?_)
 ·obtain⟨t,k,A,n,x,pb,db,b,rfl,_⟩:=h;rfl
 ·obtain⟨t,k,A,n,x,pb,db,b,rfl,I,fr,fw,hb,tb,ho,he,hx,k0⟩:=h;refine⟨_,(ae (aX (i:=2) gU.nd rfl (Or.inl rfl) (aM aD (af (pv 0) rfl) (bM sg aj (af (pv 1) rfl)) (fun _ _=>rfl))) (ae (aX (i:=3) gU.nd rfl (Or.inl rfl) (dk (dR (az (pv 1) T.Ball.cl T.Ball.cM (jC T) (hr.mono (by decide)) T.Ball.gi.b .nil au )) (az (pv 0) T.Innings.cl T.Innings.dm (iU T) (hr.mono (by decide)) T.Innings.gq.b .nil au ) (aN rfl T.fn.dQ))) (ae (br (aU (pv 0) T.Innings.cl T.Innings.e7 (oC T) (hr.mono (by decide)) T.Innings.ki.b au (aK (aM aD (af (pv 0) rfl) (af (pv 1) rfl) (fun _ _=>rfl)) (aK (af (pv 1) rfl) (aK (pv 3) (aK (af (pv 1) rfl) ah)))))) (ae (aW (pv 0) (bO (aK (pv 2) (aK (pv 2) ah))) rfl) (ag (nP (aN rfl T.fn.dQ) (oz (af (pv 0) rfl) (af (pv 1) rfl) set_list))))))),?_⟩;refine⟨_,rfl,_,_,_,_,_,rfl,I.ob,T.Innings.cl,T.Innings.dP,bh,_,rfl,_,_,_,_,_,rfl,hb,T.Ball.cl,T.Ball.Ce,pL,_,_,rfl,rfl,_,_,_,_,rfl,rfl,bD.of I.ends,NU ho,?_⟩;refine⟨_,rfl,_,_,_,rfl,hb,iN,_,_,_,rfl,hb,_,rfl,?_⟩;refine eM (fun h=>?_) (fun h=>?_)
  ·refine⟨_,rfl,_,_,_,rfl,I.ob,gW,_,_,_,_,rfl,I,?_⟩;have hbw:(if a7 b=true then n.cW else 11)=n.cW:=if_pos h;refine⟨_,rfl,_,_,_,rfl,I.ob,iF,_,rfl,_,_,_,_,_,rfl,I.ob,T.Innings.cl,T.Innings.dP,bh,_,rfl,_,_,_,_,_,rfl,hb,T.Ball.cl,T.Ball.Ce,pL,_,_,_,_,rfl,rfl,bD.of I.ends,KL ho,_,rfl,_,_,_,_,_,rfl,hb,T.Ball.cl,T.Ball.hZ,cT,_,rfl,_,rfl,_,_,_,_,_,rfl,hb,T.Ball.cl,T.Ball.d6,i6,t,k,A,n,x,_,b.how,n.cW,b.fielder,rfl,I,fr,fw,hx,fun H1 t1 A1 eA st1 I1=>?_⟩;obtain⟨hb1,tb1⟩:=bW.step hb tb st1 sx;refine⟨_,rfl,_,rfl,(by show 2≤sizeLine;decide),fun q hq=>?_⟩;have st2:Step (fun _=>False) H1 t1 (upd H1 q (.lst [.int (if b.out=0 then n.e1 else n.e0:Nat),.int (if b.out=0 then n.e1 else n.e0:Nat)])) (cn t1 q (8*(k+1)+1)):=Step.new _ hq;have I2:=I1.step st2 (fun h=>h) (fun _ _ h=>h);obtain⟨hb2,tb2⟩:=bW.step hb1 tb1 st2 (fun h=>h);refine⟨_,rfl,?_⟩;rw[←eA];refine⟨_,_,_,_,rfl,I2.ob,T.Innings.cl,T.Innings.dP,bu,?_⟩;obtain⟨I3,st3⟩:=I2.Dw (q:=q) (x:=if b.out=0 then n.e1 else n.e0) (y:=if b.out=0 then n.e1 else n.e0) aa ck;rw[xD q (if b.out=0 then n.e1 else n.e0) (if b.out=0 then n.e1 else n.e0)];obtain⟨hb3,tb3⟩:=bW.step hb2 tb2 st3 sx;have st:=(st1.trans (st2.mono fun _ h=>h.elim)).trans st3;refine⟨_,rfl,_,_,_,_,_,rfl,I3.ob,T.Innings.cl,T.Innings.dP,bh,_,rfl,_,_,_,_,_,rfl,hb3,T.Ball.cl,T.Ball.DG,uR,_,_,_,_,rfl,rfl,I3.ends,js (j:=b.end_) (by show b.end_<2;omega),?_⟩;have e:n.eY b={ n.mU (if b.out=0 then n.e0 else n.e1) b.how n.cW b.fielder with e0:=if b.end_=0 then 11 else(if b.out=0 then n.e1 else n.e0),e1:=if b.end_=0 then(if b.out=0 then n.e1 else n.e0)else 11 }:=by
    unfold N.ak.eY;rw[hbw]
   rw[e]at k0;have this:b.end_=0∨b.end_=1:=by omega
   rcases this with z|z
   ·obtain⟨I4,st4⟩:=I3.rb 11 (if b.out=0 then n.e1 else n.e0);rw[z]at k0 ⊢;exact k0.go I4 (st.trans st4) eA
   ·obtain⟨I4,st4⟩:=I3.rb (if b.out=0 then n.e1 else n.e0) 11;rw[z]at k0 ⊢;exact k0.go I4 (st.trans st4) eA
  ·have hbw:(if a7 b=true then n.cW else 11)=11:=if_neg h;refine⟨_,rfl,_,_,_,rfl,I.ob,iF,_,rfl,_,_,_,_,_,rfl,I.ob,T.Innings.cl,T.Innings.dP,bh,_,rfl,_,_,_,_,_,rfl,hb,T.Ball.cl,T.Ball.Ce,pL,_,_,_,_,rfl,rfl,bD.of I.ends,KL ho,_,rfl,_,_,_,_,_,rfl,hb,T.Ball.cl,T.Ball.hZ,cT,_,rfl,_,rfl,_,_,_,_,_,rfl,hb,T.Ball.cl,T.Ball.d6,i6,t,k,A,n,x,_,b.how,11,b.fielder,rfl,I,fr,fw,hx,fun H1 t1 A1 eA st1 I1=>?_⟩;obtain⟨hb1,tb1⟩:=bW.step hb tb st1 sx;refine⟨_,rfl,_,rfl,(by show 2≤sizeLine;decide),fun q hq=>?_⟩;have st2:Step (fun _=>False) H1 t1 (upd H1 q (.lst [.int (if b.out=0 then n.e1 else n.e0:Nat),.int (if b.out=0 then n.e1 else n.e0:Nat)])) (cn t1 q (8*(k+1)+1)):=Step.new _ hq;have I2:=I1.step st2 (fun h=>h) (fun _ _ h=>h);obtain⟨hb2,tb2⟩:=bW.step hb1 tb1 st2 (fun h=>h);refine⟨_,rfl,?_⟩;rw[←eA];refine⟨_,_,_,_,rfl,I2.ob,T.Innings.cl,T.Innings.dP,bu,?_⟩;obtain⟨I3,st3⟩:=I2.Dw (q:=q) (x:=if b.out=0 then n.e1 else n.e0) (y:=if b.out=0 then n.e1 else n.e0) aa ck;rw[xD q (if b.out=0 then n.e1 else n.e0) (if b.out=0 then n.e1 else n.e0)];obtain⟨hb3,tb3⟩:=bW.step hb2 tb2 st3 sx;have st:=(st1.trans (st2.mono fun _ h=>h.elim)).trans st3;refine⟨_,rfl,_,_,_,_,_,rfl,I3.ob,T.Innings.cl,T.Innings.dP,bh,_,rfl,_,_,_,_,_,rfl,hb3,T.Ball.cl,T.Ball.DG,uR,_,_,_,_,rfl,rfl,I3.ends,js (j:=b.end_) (by show b.end_<2;omega),?_⟩;have e:n.eY b={ n.mU (if b.out=0 then n.e0 else n.e1) b.how 11 b.fielder with e0:=if b.end_=0 then 11 else(if b.out=0 then n.e1 else n.e0),e1:=if b.end_=0 then(if b.out=0 then n.e1 else n.e0)else 11 }:=by
    unfold N.ak.eY;rw[hbw]
   rw[e]at k0;have this:b.end_=0∨b.end_=1:=by omega
   rcases this with z|z
   ·obtain⟨I4,st4⟩:=I3.rb 11 (if b.out=0 then n.e1 else n.e0);rw[z]at k0 ⊢;exact k0.go I4 (st.trans st4) eA
   ·obtain⟨I4,st4⟩:=I3.rb (if b.out=0 then n.e1 else n.e0) 11;rw[z]at k0 ⊢;exact k0.go I4 (st.trans st4) eA
inductive uD(a:Ad)(vs:List V)(H:Hp)(Q:VK):Prop
 |mk(t:Tag)(k:Nat)(A:cO)(n:N.ak)(pb db:Addr)(b:Ball)(_:vs=[.ref A.p,.ref pb])(_:bf a H t k A n)(_:Fr H t)(_:HY n)(_:bW a H pb db b)(_:t pb=0)(_:b.out≤1)(_:b.end_≤1)(_:(∃ x,n.bats[if b.out=0 then n.e0 else n.e1]?=some x))(_:Ao a H t k A (n.aJ b) (Q .non))
def sZ(a:Ad):Sp:=fun vs H Q _=>uD a vs H Q
theorem sJ:ao ["self","ball"] ["self","ball"] (ai g9):=⟨rfl,rfl,rfl,by decide +kernel,rfl,by decide +kernel,by decide +kernel⟩
theorem sO(T:Txt K mg a):aZ P w K mg base cG 6 (a.f 57) (a.d 57) ["self","ball"] (sZ a):=by
 refine T.Innings.lP.F.ok sJ (fun vs H Q E h=>?_) (fun cdv A outer s H vs Q E hr h=>?_)
 ·obtain⟨t,k,A,n,pb,db,b,rfl,_⟩:=h;rfl
 ·obtain⟨t,k,A,n,pb,db,b,rfl,I,fr,fw,hb,tb,ho,he,hx,k0⟩:=h;refine⟨_,(ag (bN (aT (nK (af (pv 1) rfl) (aN rfl T.fn.ig))) (ag (br (aU (pv 0) T.Innings.cl T.Innings.fq (va T) (hr.mono (by decide)) T.Innings.l9.b au (aK (pv 1) ah)))) (ag (bN (aT (bx (bM Nl (af (pv 1) rfl) aj) aj)) (ag (br (az (pv 0) T.Innings.cl T.Innings.dB (lS T) (hr.mono (by decide)) T.Innings.iC.b .nil au ))) aY)))),?_⟩;unfold N.ak.aJ at k0;obtain⟨x,hx⟩:=hx;refine⟨_,rfl,_,_,_,_,_,rfl,hb,T.Ball.cl,T.Ball.hZ,cT,_,_,rfl,rfl,_,rfl,?_⟩;refine eM (fun h=>?_) (fun h=>?_)
  ·rw[if_pos (by simp at h;omega)]at k0;exact⟨_,rfl,_,_,_,rfl,I.ob,rT,_,rfl,t,k,A,n,x,_,_,b,rfl,I,fr,fw,hb,tb,ho,he,hx,k0⟩
  ·rw[if_neg (by simp at h;omega)]at k0;refine⟨_,rfl,_,_,_,_,_,rfl,hb,T.Ball.cl,T.Ball.bz,cV,_,_,rfl,rfl,(by show(0:Int)<2;decide),_,_,rfl,rfl,_,rfl,?_⟩;refine eM (fun h=>?_) (fun h=>?_)
   ·rw[if_pos (by simp at h;omega)]at k0;exact⟨_,rfl,_,_,_,rfl,I.ob,gc,t,k,A,n,rfl,I,k0⟩
   ·rw[if_neg (by simp at h;omega)]at k0;exact k0.go I Step.refl rfl
inductive vM(a:Ad)(vs:List V)(H:Hp)(Q:VK):Prop
 |mk(t:Tag)(k:Nat)(A:cO)(n:N.ak)(os:List N.Over)(o:N.Over)(f:Sh11.Bowl)(_:vs=[.ref A.p])(_:bf a H t k A n)(_:Fr H t)(_:n.overs=os++[o])(_:n.aI[o.bowler]?=some f)(_:Ao a H t k A n.gh (Q .non))
def uC(a:Ad):Sp:=fun vs H Q _=>vM a vs H Q
theorem lE:ao ["self","bowler"] ["self"] (ai iq):=⟨rfl,rfl,rfl,by decide +kernel,rfl,by decide +kernel,by decide +kernel⟩
theorem tL(T:Txt K mg a):aZ P w K mg base cG 4 (a.f 60) (a.d 60) ["self"] (uC a):=by
 refine T.Innings.ma.F.ok lE (fun vs H Q E h=>?_) (fun cdv A outer s H vs Q E hr h=>?_)
 ·obtain⟨t,k,A,n,os,o,f,rfl,_⟩:=h;rfl
 ·obtain⟨t,k,A,n,os,o,f,rfl,I,fr,eo,hf,k0⟩:=h;refine⟨_,(ae (aX (i:=1) lE.nd rfl (Or.inl rfl) (af (aM aD (af (pv 0) rfl) (ly g5 aj) (fun _ _=>rfl)) rfl)) (ae (bN (aT (bx (af (aM aD (af (pv 0) rfl) (ly g5 aj) (fun _ _=>rfl)) rfl) aj)) (ag (nP (az (aM aD (af (pv 0) rfl) (pv 1) (fun _ _=>rfl)) T.aR.cl T.aR.fB (uT T) (hr.mono (by decide)) T.aR.ml.b .nil au ) (oz (af (pv 0) rfl) (pv 1) set_list))) aY) (ag (br (az (pv 0) T.Innings.cl T.Innings.dB (lS T) (hr.mono (by decide)) T.Innings.iC.b .nil au ))))),?_⟩;have I2:=I.overs;rw[eo]at I2;obtain⟨qs,p,oo,e1,e2,ht,ho,⟨dx,rfl⟩,hat⟩:=I2.last;unfold N.ak.gh at k0;have e3:n.overs.getLast?=some o:=by rw[eo];simp
  rw[e3]at k0;simp only[]at k0;refine⟨_,rfl,_,_,_,_,_,rfl,I.ob,T.Innings.cl,T.Innings.dz,a9,_,rfl,_,_,_,_,rfl,rfl,bD.of I.overs.lst,hat,_,_,_,_,_,rfl,ho,T.Over.cl,T.Over.fV,jZ,?_⟩;refine⟨_,rfl,_,_,_,_,_,rfl,I.ob,T.Innings.cl,T.Innings.dz,a9,_,rfl,_,_,_,_,rfl,rfl,bD.of I.overs.lst,hat,_,_,_,_,_,rfl,ho,T.Over.cl,T.Over.bz,BU,_,_,rfl,rfl,_,rfl,?_⟩;refine eM (fun h=>?_) (fun h=>?_)
  ·rw[if_pos (by have:=iA h;omega)]at k0;obtain⟨p1,o1,hp1,ht1,ho1,dx1,rfl⟩:=I.aI.get hf;refine⟨_,rfl,_,_,_,_,_,rfl,I.ob,T.Innings.cl,T.Innings.ij,d8,_,rfl,_,_,_,_,rfl,rfl,bD.of I.aI.lst,ar (fe hp1),_,_,_,rfl,ho1,rO,_,_,_,rfl,ho1,fun H2 q dq s2 nq hq=>?_⟩;have I3:=I.same s2;refine⟨_,rfl,_,_,_,_,_,rfl,I3.ob,T.Innings.cl,T.Innings.ij,d8,_,rfl,_,_,_,_,rfl,rfl,I3.aI.lst,js (by rw[List.length_map,I3.aI.len];exact (List.getElem?_eq_some_iff.mp hf).1),?_⟩;obtain⟨I4,st⟩:=I3.LH (I3.aI.set (j:=o.bowler) (x:=N.mq f) (List.getElem?_eq_some_iff.mp hf).1 (fr q nq) (tM I3.gK) hq ⟨dq,rfl⟩);rw[kh hf]at k0;exact⟨_,rfl,_,_,_,rfl,I4.ob,gc,t,k,{ A with fs:=A.fs.set o.bowler q },_,rfl,I4,fun H5 t5 A5 eA st5 I5=>k0.go I5 (((Step.same s2).trans st).trans st5) eA⟩
  ·rw[if_neg (fun z=>h (decide_eq_true (by rw[z];rfl)))]at k0;exact⟨_,rfl,_,_,_,rfl,I.ob,gc,t,k,A,n,rfl,I,k0⟩
end
end Sb
namespace Sb
open PySem L2
open Sh11 (Ball)
open aq (extra cF g8 fR bc boundary a7)
section
variable{P:Program}{w:World}{K:PySem.W.Frag}{mg:Str→Option Value}{base:Heap}{a:Ad}
theorem MZ(b:Ball)(j:N.ak):(N.ak.aJ b j).overs=j.overs∧(N.ak.aJ b j).len=j.len∧(N.ak.aJ b j).aI=j.aI∧(N.ak.aJ b j).told=j.told:=by
 unfold N.ak.aJ;split
 ·exact⟨rfl,rfl,rfl,rfl⟩
 ·split<;>exact⟨rfl,rfl,rfl,rfl⟩
structure Ready(n:N.ak)(b:Ball):Prop where
 bo:aq.ku b
 go:n.jm=true
 ov:∃ os o f,n.overs=os++[o]∧n.aI[o.bowler]?=some f
 st:∃ ss s,n.stands=ss++[s]
 b0:∃ x,n.bats[n.e0]?=some x
 b1:∃ x,n.bats[n.e1]?=some x
 sm:n.told.length+1<1000000∧n.falls.length+1<1000000
inductive zz(a:Ad)(vs:List V)(H:Hp)(Q:VK):Prop
 |mk(t:Tag)(k:Nat)(A:cO)(n:N.ak)(pb db:Addr)(b:Ball)(_:vs=[.ref A.p,.ref pb])(_:bf a H t k A n)(_:Fr H t)(_:HY n)(_:bW a H pb db b)(_:t pb=0)(_:Ready n b)(_:Ao a H t k A (n.deliver b) (Q .non))
def zh(a:Ad):Sp:=fun vs H Q _=>zz a vs H Q
theorem kN:ao ["self","ball","striker","bowler"] ["self","ball"] (ai lA):=⟨rfl,rfl,rfl,by decide +kernel,rfl,by decide +kernel,by decide +kernel⟩
theorem zl(T:Txt K mg a):aZ P w K mg base cG 7 (a.f 56) (a.d 56) ["self","ball"] (zh a):=by
 refine T.Innings.rf.F.ok kN (fun vs H Q E h=>?_) (fun cdv A outer s H vs Q E hr h=>?_)
 ·obtain⟨t,k,A,n,pb,db,b,rfl,_⟩:=h;rfl
 ·obtain⟨t,k,A,n,pb,db,b,rfl,I,fr,fw,hb,tb,rd,k0⟩:=h;refine⟨_,(ae (aX (i:=2) kN.nd rfl (Or.inl rfl) (aM aD (af (pv 0) rfl) aj (fun _ _=>rfl))) (ae (aX (i:=3) kN.nd rfl (Or.inl rfl) (az (pv 0) T.Innings.cl T.Innings.dm (iU T) (hr.mono (by decide)) T.Innings.gq.b .nil au )) (ae (aW (pv 0) (aU (af (pv 0) rfl) T.bB.cl T.bB.oS (FW T) (hr.mono (by decide)) T.bB.zB.b au (aK (pv 1) ah)) rfl) (ae (nP (aU (aM aD (af (pv 0) rfl) (pv 2) (fun _ _=>rfl)) T.aE.cl T.aE.lh (CV T) (hr.mono (by decide)) T.aE.xc.b au (aK (pv 1) ah)) (oz (af (pv 0) rfl) (pv 2) set_list)) (ae (nP (aU (aM aD (af (pv 0) rfl) (pv 3) (fun _ _=>rfl)) T.aR.cl T.aR.kb (Bb T) (hr.mono (by decide)) T.aR.vi.b au (aK (pv 1) ah)) (oz (af (pv 0) rfl) (pv 3) set_list)) (ae (nP (aU (aM aD (af (pv 0) rfl) (ly g5 aj) (fun _ _=>rfl)) T.Stand.cl T.Stand.mW (DO T) (hr.mono (by decide)) T.Stand.yB.b au (aK (pv 1) ah)) (oz (af (pv 0) rfl) (ly g5 aj) set_list)) (ae (br (aU (pv 0) T.Innings.cl T.Innings.eC (sO T) (hr.mono (by decide)) T.Innings.lP.b au (aK (pv 1) ah))) (ae (nP (aU (aM aD (af (pv 0) rfl) (ly g5 aj) (fun _ _=>rfl)) T.Over.cl T.Over.oW (FY T) (hr.mono (by decide)) T.Over.zx.b au (aK (pv 1) ah)) (oz (af (pv 0) rfl) (ly g5 aj) set_list)) (ae (br (Am PySem.F.plainAttrs_list PySem.F.slot_list_append PySem.F.type_list_append mI (af (pv 0) rfl) (aK (bC (Km T) (hr.mono (by decide)) rfl T.fn.xM T.fn.AO.F.kp T.fn.AO.b au (aK (pv 1) ah)) ah))) (ag (bN (Es (dR (az (pv 0) T.Innings.cl T.Innings.bQ (c5 T) (hr.mono (by decide)) T.Innings.cx.b .nil au ))) (ag (br (az (pv 0) T.Innings.cl T.Innings.fv (tL T) (hr.mono (by decide)) T.Innings.ma.b .nil au ))) aY))))))))))),?_⟩;obtain⟨os,o,f,eo,hf⟩:=rd.ov;obtain⟨ss,sd,es⟩:=rd.st;obtain⟨x,hx⟩:=rd.b0;have ew:n.cW=o.bowler:=by unfold N.ak.cW;rw[rd.go,if_pos rfl,eo];simp
  refine⟨_,rfl,_,_,_,_,_,rfl,I.ob,T.Innings.cl,T.Innings.dP,bh,_,_,_,_,rfl,rfl,bD.of I.ends,ar (j:=0) rfl,?_⟩;refine⟨_,rfl,_,_,_,rfl,I.ob,gW,_,_,_,_,rfl,I,?_⟩;rw[ew];obtain⟨o1,ho1,d1,rfl⟩:=I.sums;refine⟨_,rfl,_,_,_,_,_,rfl,I.ob,T.Innings.cl,T.Innings.kE,di,_,_,_,rfl,ho1,C5,_,rfl,_,_,_,_,_,_,rfl,ho1,hb,fun H1 q1 dq1 s1 nq1 hq1=>?_⟩;have I1:=I.same s1;refine⟨_,rfl,_,_,_,_,rfl,I1.ob,T.Innings.cl,T.Innings.kE,bu,?_⟩;obtain⟨I2,st2⟩:=I1.Hf (q:=q1) (y:=N.gy b n.sums) hq1 ⟨dq1,rfl⟩ (fr q1 nq1);rw[Ej q1 (N.gy b n.sums)];have S2:=(Step.same (R:=inR k) (t:=t) s1).trans st2;obtain⟨hb2,_⟩:=bW.step hb tb S2 sx;have fr2:=S2.fr fr;obtain⟨p3,o3,hp3,ht3,ho3,d3,rfl⟩:=I2.bats.get hx;refine⟨_,rfl,_,_,_,_,_,rfl,I2.ob,T.Innings.cl,T.Innings.cH,bq,_,rfl,_,_,_,_,rfl,rfl,bD.of I2.bats.lst,ar (fe hp3),_,_,_,rfl,ho3,zm,_,rfl,_,_,_,_,_,_,rfl,ho3,hb2,fun H3 q3 dq3 s3 nq3 hq3=>?_⟩;have I3:=I2.same s3;have tq3:t q3=0:=by
   rcases nq3 with e|e
   ·rw[e];exact ht3
   ·exact fr2 q3 e
  refine⟨_,rfl,_,_,_,_,_,rfl,I3.ob,T.Innings.cl,T.Innings.cH,bq,_,rfl,_,_,_,_,rfl,rfl,I3.bats.lst,js (by rw[List.length_map,I3.bats.len];exact (List.getElem?_eq_some_iff.mp hx).1),?_⟩;obtain⟨I4,st4⟩:=I3.Dq (I3.bats.set (j:=n.e0) (x:=N.jW b x) (List.getElem?_eq_some_iff.mp hx).1 tq3 (tM I3.gk) hq3 ⟨dq3,rfl⟩);have S4:=(S2.trans (Step.same s3)).trans st4;obtain⟨hb4,_⟩:=bW.step hb tb S4 sx;have fr4:=S4.fr fr;obtain⟨p5,o5,hp5,ht5,ho5,d5,rfl⟩:=I4.aI.get hf;refine⟨_,rfl,_,_,_,_,_,rfl,I4.ob,T.Innings.cl,T.Innings.ij,d8,_,rfl,_,_,_,_,rfl,rfl,bD.of I4.aI.lst,ar (fe hp5),_,_,_,rfl,ho5,yO,_,rfl,_,_,_,_,_,_,rfl,ho5,hb4,fun H5 q5 dq5 s5 nq5 hq5=>?_⟩;have I5:=I4.same s5;refine⟨_,rfl,_,_,_,_,_,rfl,I5.ob,T.Innings.cl,T.Innings.ij,d8,_,rfl,_,_,_,_,rfl,rfl,I5.aI.lst,js (by rw[List.length_map,I5.aI.len];exact (List.getElem?_eq_some_iff.mp hf).1),?_⟩;obtain⟨I6,st6⟩:=I5.LH (I5.aI.set (j:=o.bowler) (x:=N.tm b f) (List.getElem?_eq_some_iff.mp hf).1 (fr4 q5 nq5) (tM I5.gK) hq5 ⟨dq5,rfl⟩);have S6:=(S4.trans (Step.same s5)).trans st6;obtain⟨hb6,_⟩:=bW.step hb tb S6 sx;have fr6:=S6.fr fr;have J6:=I6.stands;simp only[]at J6;rw[es]at J6;obtain⟨qs7,p7,o7,e71,e72,ht7,ho7,⟨d7,rfl⟩,hat7⟩:=J6.last;refine⟨_,rfl,_,_,_,_,_,rfl,I6.ob,T.Innings.cl,T.Innings.jX,dJ,_,rfl,_,_,_,_,rfl,rfl,bD.of I6.stands.lst,hat7,_,_,_,rfl,ho7,Bx,_,rfl,_,_,_,_,_,_,rfl,ho7,hb6,fun H7 q7 dq7 s7 nq7 hq7=>?_⟩;have I7:=I6.same s7;have hl7:(A.ss.map V.ref).length=ss.length+1:=by rw[List.length_map,e71];simp[e72]
  have J7:=I7.stands;simp only[]at J7;rw[es]at J7;refine⟨_,rfl,_,_,_,_,_,rfl,I7.ob,T.Innings.cl,T.Innings.jX,dJ,_,rfl,_,_,_,_,rfl,rfl,I7.stands.lst,(by rw[hl7];exact DQ),?_⟩;obtain⟨I8,st8⟩:=I7.xF (J7.set (j:=ss.length) (x:=N.mC b sd) (by simp) (fr6 q7 nq7) (tM I7.cg) hq7 ⟨dq7,rfl⟩);have S8:=(S6.trans (Step.same s7)).trans st8;obtain⟨hb8,tb8⟩:=bW.step hb tb S8 sx;have fr8:=S8.fr fr;have ec:N.ak.bX b n={ n with sums:=N.gy b n.sums,bats:=n.bats.set n.e0 (N.jW b x),aI:=n.aI.set o.bowler (N.tm b f),stands:=(ss++[sd]).set ss.length (N.mC b sd) }:=by
   unfold N.ak.bX;rw[ew,kh hx,kh hf,es,Gw]
  simp only[]at I8;rw[←ec]at I8;have hg:∃ y,(N.ak.bX b n).bats[if b.out=0 then(N.ak.bX b n).e0 else(N.ak.bX b n).e1]?=some y:=by
   have hlen:(N.ak.bX b n).bats.length=n.bats.length:=List.length_modify ..;obtain⟨y,hy⟩:∃ y,n.bats[if b.out=0 then n.e0 else n.e1]?=some y:=by
    split
    ·exact rd.b0
    ·exact rd.b1
   have hlt:=(List.getElem?_eq_some_iff.mp hy).1;exact⟨(N.ak.bX b n).bats[if b.out=0 then n.e0 else n.e1]'(by rw[hlen];exact hlt),List.getElem?_eq_getElem _⟩
  have fw8:HY (N.ak.bX b n):=by
   refine⟨fw.overs,fw.told,fw.falls,?_,?_,?_⟩
   ·show(aq.gI _ n.stands).length<_;unfold aq.gI;rw[List.length_modify];exact fw.stands
   ·show(n.bats.modify _ _).length=11;rw[List.length_modify];exact fw.bats
   ·show(n.aI.modify _ _).length=11;rw[List.length_modify];exact fw.aI
  refine⟨_,rfl,_,_,_,rfl,I8.ob,qN,_,rfl,t,k,{ A with sums:=q1,bs:=A.bs.set n.e0 q3,fs:=A.fs.set o.bowler q5,ss:=A.ss.set ss.length q7 },_,_,_,b,rfl,I8,fr8,fw8,hb8,tb8,rd.bo.out,rd.bo.end_,hg,fun H9 t9 A9 eA9 st9 I9=>?_⟩;have S9:=S8.trans st9;obtain⟨hb9,tb9⟩:=bW.step hb tb S9 sx;have fr9:=S9.fr fr;have eA:A9.p=A.p:=eA9;obtain⟨m1,m2,m3,m4⟩:=MZ b (N.ak.bX b n);have J9:=I9.overs;rw[m1]at J9;have eo':(N.ak.bX b n).overs=os++[o]:=eo;rw[eo']at J9;obtain⟨qsa,pa,oa,ea1,ea2,hta,hoa,⟨da,rfl⟩,hata⟩:=J9.last;refine⟨_,rfl,?_⟩;rw[←eA];refine⟨_,_,_,_,_,rfl,I9.ob,T.Innings.cl,T.Innings.dz,a9,_,rfl,_,_,_,_,rfl,rfl,bD.of I9.overs.lst,hata,_,_,_,rfl,hoa,CJ,_,rfl,_,_,_,_,_,_,rfl,hoa,hb9,fun Ha qa dqa sa nqa hqa=>?_⟩;have Ia:=I9.same sa;have hla:(A9.os.map V.ref).length=os.length+1:=by rw[List.length_map,ea1];simp[ea2]
  have Ja:=Ia.overs;rw[m1,eo']at Ja;refine⟨_,rfl,_,_,_,_,_,rfl,Ia.ob,T.Innings.cl,T.Innings.dz,a9,_,rfl,_,_,_,_,rfl,rfl,Ia.overs.lst,(by rw[hla];exact DQ),?_⟩;obtain⟨Ib,stb⟩:=Ia.E7 (Ja.set (j:=os.length) (x:=N.cY b o) (by simp) (fr9 qa nqa) (tM Ia.dj) hqa ⟨dqa,rfl⟩);have Sb_:=(S9.trans (Step.same sa)).trans stb;obtain⟨hbb,tbb⟩:=bW.step hb tb Sb_ sx;refine⟨_,rfl,_,_,_,_,_,rfl,Ib.ob,T.Innings.cl,T.Innings.sh,fi,.inl ⟨rfl,_,bD.of Ib.told⟩,_,rfl,_,_,_,rfl,hbb,rd.bo,_,_,_,rfl,rfl,Ib.told,m5 (by rw[List.length_map];show(N.ak.aJ b (N.ak.bX b n)).told.length<_;rw[m4];exact fw.told),?_⟩;obtain⟨Ic,stc⟩:=Ib.LQ ((N.ak.aJ b (N.ak.bX b n)).told++[b.written]);rw[List.map_append]at Ic stc;have Sc:=Sb_.trans stc;have en:N.ak.jS b (N.ak.aJ b (N.ak.bX b n))={ N.ak.aJ b (N.ak.bX b n)with overs:=(os++[o]).set os.length (N.cY b o),told:=(N.ak.aJ b (N.ak.bX b n)).told++[b.written] }:=by
   unfold N.ak.jS;rw[m1,eo',Gw]
  simp only[]at Ic;rw[←en]at Ic;unfold N.ak.deliver at k0;simp only[]at k0;refine⟨_,rfl,_,_,_,rfl,Ic.ob,cD,t9,k,{ A9 with os:=A9.os.set os.length qa },_,rfl,Ic,_,rfl,?_⟩;refine eM (fun h=>?_) (fun h=>?_)
  ·have hgo:(N.ak.jS b (N.ak.aJ b (N.ak.bX b n))).jm=false:=by simpa using h
   rw[if_neg (by rw[hgo];decide)]at k0;have eoc:(N.ak.jS b (N.ak.aJ b (N.ak.bX b n))).overs=os++[N.cY b o]:=by
    show aq.gI _ (N.ak.aJ b (N.ak.bX b n)).overs=_;rw[m1,eo',aq.ie]
   obtain⟨f2,hf2⟩:∃ f2,(N.ak.jS b (N.ak.aJ b (N.ak.bX b n))).aI[(N.cY b o).bowler]?=some f2:=by
    have e:(N.ak.jS b (N.ak.aJ b (N.ak.bX b n))).aI=(N.ak.bX b n).aI:=m3;rw[e];show ∃ f2,(n.aI.modify n.cW _)[o.bowler]?=some f2
    rw[ew,aq.cu,hf];exact⟨_,rfl⟩
   exact⟨_,rfl,_,_,_,rfl,Ic.ob,sf,t9,k,{ A9 with os:=A9.os.set os.length qa },_,os,N.cY b o,f2,rfl,Ic,Sc.fr fr,eoc,hf2,fun H' t' A' e st' I'=>k0.go I' (Sc.trans st') (e.trans eA)⟩
  ·have hgo:(N.ak.jS b (N.ak.aJ b (N.ak.bX b n))).jm=true:=by simpa using h
   rw[if_pos hgo]at k0;exact k0.go Ic Sc eA
end
end Sb
namespace Sb
open PySem L2
open Sh11 (Ball)
section
variable{P:Program}{w:World}{K:PySem.W.Frag}{mg:Str→Option Value}{base:Heap}{a:Ad}
theorem NY{H:Hp}{l:Addr}{o:HO}(h:H l=some o):upd H l o=H:=by
 funext b
 by_cases e:b=l
 ·subst e;rw[aa,h]
 ·rw[ax e]
theorem Hj{xs:List V}{i j:Nat}:DV xs (some (i:Int)) (some (j:Int))=(xs.take j).drop i:=by
 unfold DV;rw[HT.HX,HT.HX];apply List.ext_getElem?;intro k;rw[List.getElem?_take,List.getElem?_drop,List.getElem?_drop,List.getElem?_take];by_cases h1:i≤xs.length
 ·rw[Nat.min_eq_left h1];by_cases h2:j≤xs.length
  ·rw[Nat.min_eq_left h2];by_cases h3:k<j-i
   ·rw[if_pos h3,if_pos (by omega)]
   ·rw[if_neg h3,if_neg (by omega)]
  ·have e0:min j xs.length=xs.length:=Nat.min_eq_right (by omega);rw[e0];by_cases h3:k<xs.length-i
   ·rw[if_pos h3,if_pos (by omega)]
   ·rw[if_neg h3];split
    ·rw[List.getElem?_eq_none (by omega)]
    ·rfl
 ·have e0:min i xs.length=xs.length:=Nat.min_eq_right (by omega);rw[e0];have e1:¬k<min j xs.length-xs.length:=by
   have:=Nat.min_le_right j xs.length;omega
  rw[if_neg e1];split
  ·rw[List.getElem?_eq_none (by omega)]
  ·rfl
theorem Pw{x y:Str}(h:x.cps.toList=y.cps.toList):x=y:=by
 obtain⟨x⟩:=x;obtain⟨y⟩:=y
 congr 1
 exact Array.toList_inj.mp h
theorem Jx:∀ ws:List Sh11.Bytes,TL.Gy [32] (ws.map fun b=>b.map UInt8.toNat)=(Sh11.joined ws).map UInt8.toNat
 |[]=>rfl
 |[b]=>rfl
 |b::c::r=>by
  have ih:=Jx (c::r);show b.map UInt8.toNat++([32]++TL.Gy [32] ((c::r).map fun b=>b.map UInt8.toNat))=(b++(32::Sh11.joined (c::r))).map UInt8.toNat;rw[ih,List.map_append,List.map_cons];rfl
theorem JH(ws:List Sh11.Bytes):Txt.join (" ":Str) (ws.map strOf)=strOf (Sh11.joined ws):=by
 rw[TL.join_eq];apply Pw;have h:=TL.LP (" ":Str) (ws.map strOf)
 have e:(" ":Str).cps.toList=[32]:=by decide +kernel
 have e2:(ws.map strOf).map TL.tl=ws.map fun b=>b.map UInt8.toNat:=by
  rw[List.map_map];apply List.map_congr_left;intro b _;show(b.map UInt8.toNat).toArray.toList=_;simp
 rw[e2]at h;have h2:(Str.join (" ":Str) (ws.map strOf)).cps.toList=TL.Gy [32] (ws.map fun b=>b.map UInt8.toNat):=by
  rw[←e];exact h
 rw[h2,Jx];show _=((Sh11.joined ws).map UInt8.toNat).toArray.toList;simp
theorem pw(b:Sh11.Bytes):(strOf b).length=b.length:=by
 show((b.map UInt8.toNat).toArray).size=_;simp
theorem LL(ws:List Sh11.Bytes):((ws.map strOf).map (·.length)).sum+(ws.map strOf).length*(" ":Str).length=(ws.map fun w=>w.length+1).sum:=by
 have e:(" ":Str).length=1:=by decide +kernel
 rw[e,List.length_map,List.map_map,Nat.mul_one]
 induction ws with
 |nil=>rfl
 |cons w r ih=>
  simp only[List.map_cons,List.sum_cons,List.length_cons];rw[←ih];show(strOf w).length+_+_=_;rw[pw];omega
inductive x9(a:Ad)(vs:List V)(H:Hp)(Q:VK):Prop
 |mk(t:Tag)(k:Nat)(A:cO)(n:N.ak)(o:N.Over)(j:Nat)(_:vs=[.ref A.p,.int j])(_:bf a H t k A n)(_:n.overs[j]?=some o)(_:((N.gT n j o).map fun w=>w.length+1).sum≤16777216)(_:∀ H',a6 H H'→Q (.str (strOf (Sh11.joined (N.gT n j o)))) H')
def wj(a:Ad):Sp:=fun vs H Q _=>x9 a vs H Q
theorem nv:ao ["self","i","behind"] ["self","i"] (ai jI):=⟨rfl,rfl,rfl,by decide +kernel,rfl,by decide +kernel,by decide +kernel⟩
theorem wC(T:Txt K mg a):aZ P w K mg base cG 1 (a.f 54) (a.d 54) ["self","i"] (wj a):=by
 refine T.Innings.oF.F.ok nv (fun vs H Q E h=>?_) (fun cdv A outer s H vs Q E hr h=>?_)
 ·obtain⟨t,k,A,n,o,j,rfl,_⟩:=h;rfl
 ·obtain⟨t,k,A,n,o,j,rfl,I,ho,hz,k0⟩:=h;refine⟨_,(ae (aX (i:=2) nv.nd rfl (Or.inl rfl) (dk (aT (yo (bM cN (pv 1) aj) (ba aP rfl T.fn.c8 PySem.boot_len (aK (af (pv 0) rfl) ah)))) (af (aM aD (af (pv 0) rfl) (bM cN (pv 1) aj) (fun _ _=>rfl)) rfl) (ba aP rfl T.fn.c8 PySem.boot_len (aK (af (pv 0) rfl) ah)))) (ag (ay (O9 vX (wB Aj (af (pv 0) rfl) (ua (af (aM aD (af (pv 0) rfl) (pv 1) (fun _ _=>rfl)) rfl)) (ua (pv 2))))))),?_⟩;obtain⟨p0,oo,hp0,ht0,ho0,d0,rfl⟩:=I.overs.get ho;refine⟨_,rfl,_,_,rfl,rfl,_,rfl,_,_,_,_,_,rfl,I.ob,T.Innings.cl,T.Innings.dz,a9,_,_,rfl,.inl (bD.of I.overs.lst),_,_,rfl,rfl,_,rfl,?_⟩;refine eM (fun h=>?_) (fun h=>?_)
  ·have h':j+1<n.overs.length:=by
    have:=iA h;rw[List.length_map,I.overs.len]at this;omega
   obtain⟨q,hq⟩:∃ q,n.overs[j+1]?=some q:=⟨n.overs[j+1],List.getElem?_eq_getElem h'⟩
   obtain⟨p1,o1,hp1,ht1,ho1,d1,rfl⟩:=I.overs.get hq;refine⟨_,rfl,_,_,_,_,_,rfl,I.ob,T.Innings.cl,T.Innings.dz,a9,_,rfl,_,_,rfl,rfl,_,_,_,_,rfl,rfl,bD.of I.overs.lst,ar (j:=j+1) (fe hp1),_,_,_,_,_,rfl,ho1,T.Over.cl,T.Over.t8,oZ,?_⟩;have hbh:N.gT n j o=(n.told.take q.first).drop o.first:=by unfold N.gT;rw[hq]
   refine⟨⟨_,rfl⟩,_,rfl,_,_,_,_,_,rfl,I.ob,T.Innings.cl,T.Innings.sh,fi,_,rfl,_,_,_,_,_,rfl,I.ob,T.Innings.cl,T.Innings.dz,a9,_,rfl,_,_,_,_,rfl,rfl,bD.of I.overs.lst,ar (fe hp0),_,_,_,_,_,rfl,ho0,T.Over.cl,T.Over.t8,oZ,_,rfl,_,rfl,_,rfl,_,_,rfl,bD.of I.told,fun D hD=>?_⟩;rw[Hj];have es:((n.told.map fun b=>V.str (strOf b)).take q.first).drop o.first=((N.gT n j o).map strOf).map V.str:=by
    rw[hbh,List.map_map,←List.map_take,←List.map_drop];rfl
   rw[es];refine⟨_,_,(N.gT n j o).map strOf,rfl,rfl,.inl (bD.of aa),(by rw[LL];exact hz),?_⟩;rw[JH];exact k0 _ (aA hD)
  ·have h':¬j+1<n.overs.length:=fun z=>h (decide_eq_true (by rw[List.length_map,I.overs.len];omega))
   have hq:n.overs[j+1]?=none:=List.getElem?_eq_none (by omega);refine⟨_,rfl,_,_,_,_,_,rfl,I.ob,T.Innings.cl,T.Innings.sh,fi,_,_,rfl,.inl (bD.of I.told),?_⟩;have hbh:N.gT n j o=(n.told.take (n.told.map fun b=>V.str (strOf b)).length).drop o.first:=by unfold N.gT;rw[hq,List.length_map]
   refine⟨⟨_,rfl⟩,_,rfl,_,_,_,_,_,rfl,I.ob,T.Innings.cl,T.Innings.sh,fi,_,rfl,_,_,_,_,_,rfl,I.ob,T.Innings.cl,T.Innings.dz,a9,_,rfl,_,_,_,_,rfl,rfl,bD.of I.overs.lst,ar (fe hp0),_,_,_,_,_,rfl,ho0,T.Over.cl,T.Over.t8,oZ,_,rfl,_,rfl,_,rfl,_,_,rfl,bD.of I.told,fun D hD=>?_⟩;rw[Hj];have es:((n.told.map fun b=>V.str (strOf b)).take (n.told.map fun b=>V.str (strOf b)).length).drop o.first=((N.gT n j o).map strOf).map V.str:=by
    rw[hbh,List.map_map,←List.map_take,←List.map_drop];rfl
   rw[es];refine⟨_,_,(N.gT n j o).map strOf,rfl,rfl,.inl (bD.of aa),(by rw[LL];exact hz),?_⟩;rw[JH];exact k0 _ (aA hD)
noncomputable def wG(xs:List V):V:=xs.getLast?.getD .non
inductive Mh(a:Ad)(vs:List V)(H:Hp)(Q:VK):Prop
 |mk(l:Addr)(xs:List V)(_:vs=[.ref l])(_:H l=some (.lst xs))(_:∀ c,H c=none→Q (.ref c) (upd H c (.tup [.int xs.length,wG xs])))
def KG(a:Ad):Sp:=fun vs H Q _=>Mh a vs H Q
theorem JU:ao ["rows"] ["rows"] (ai Bw):=⟨rfl,rfl,rfl,by decide +kernel,rfl,by decide +kernel,by decide +kernel⟩
theorem tY(T:Txt K mg a):aZ P w K mg base cG 1 (a.f 65) (a.d 65) ["rows"] (KG a):=by
 refine T.fn.jv.F.ok JU (fun vs H Q E h=>?_) (fun cdv A outer s H vs Q E hr h=>?_)
 ·obtain⟨l,xs,rfl,_⟩:=h;rfl
 ·obtain⟨l,xs,rfl,hl,k0⟩:=h;refine⟨_,(ag (ay (AV (aK (ba aP rfl T.fn.c8 PySem.boot_len (aK (pv 0) ah)) (aK (dk (aT (kT (ba aP rfl T.fn.c8 PySem.boot_len (aK (pv 0) ah)) aj)) (aM aD (pv 0) (ly g5 aj) (fun _ _=>rfl)) Kb) ah))))),?_⟩;refine⟨_,rfl,_,_,rfl,.inl (bD.of hl),_,rfl,_,_,rfl,.inl (bD.of hl),_,_,rfl,rfl,_,rfl,?_⟩;refine eM (fun h=>?_) (fun h=>?_)
  ·rcases aq.a8 xs with e|⟨ps,v,e⟩
   ·subst e;exact absurd h (by decide)
   ·subst e;have e2:wG (ps++[v])=v:=by unfold wG;simp
    rw[e2]at k0;exact⟨_,rfl,_,rfl,_,_,_,_,rfl,rfl,bD.of hl,Ak ps v,(by show 2≤sizeLine;decide),k0⟩
  ·have e:xs=[]:=by
    cases xs with
    |nil=>rfl
    |cons x r=>exact absurd (decide_eq_true (by simp)) h
   subst e;exact⟨(by show 2≤sizeLine;decide),k0⟩
noncomputable def J0(xs:List V)(m:Nat)(v:V):List V:=if 0<m then(xs.take m).set (m-1) v else[]
inductive K6(a:Ad)(vs:List V)(H:Hp)(Q:VK):Prop
 |mk(l c:Addr)(xs:List V)(m:Nat)(v:V)(_:vs=[.ref l,.ref c])(_:H l=some (.lst xs))(_:H c=some (.tup [.int m,v]))(_:m≤xs.length)(_:Q .non (upd H l (.lst (J0 xs m v))))
def JP(a:Ad):Sp:=fun vs H Q _=>K6 a vs H Q
theorem JK:ao ["rows","tail"] ["rows","tail"] (ai yH):=⟨rfl,rfl,rfl,by decide +kernel,rfl,by decide +kernel,by decide +kernel⟩
theorem rg(T:Txt K mg a):aZ P w K mg base cG 1 (a.f 66) (a.d 66) ["rows","tail"] (JP a):=by
 refine T.fn.g4.F.ok JK (fun vs H Q E h=>?_) (fun cdv A outer s H vs Q E hr h=>?_)
 ·obtain⟨l,c,xs,m,v,rfl,_⟩:=h;rfl
 ·obtain⟨l,c,xs,m,v,rfl,hl,hc,hm,k0⟩:=h;refine⟨_,(ae (IX PassesOwn.never (aT (kT (ba aP rfl T.fn.c8 PySem.boot_len (aK (pv 0) ah)) (aM dU (pv 1) aj (fun _ _=>rfl)))) (ag (br (N8 PySem.F.plainAttrs_list PySem.F.slot_list_pop PySem.F.type_list_pop Oy (pv 0) )))) (ag (bN (aT (kT (aM dU (pv 1) aj (fun _ _=>rfl)) aj)) (ag (nP (aM dU (pv 1) aj (fun _ _=>rfl)) (oz (pv 0) (ly g5 aj) set_list))) aY))),?_⟩;have nc:c≠l:=PQ hc hl (by intro z;cases z);refine⟨fun mm σ H2=>m≤mm∧mm≤xs.length∧σ=[some (.ref l),some (.ref c)]∧H2=upd H l (.lst (xs.take mm)),⟨xs.length,hm,Nat.le_refl _,rfl,by rw[List.take_length,NY hl]⟩,?_⟩
  rintro mm σ H2 ⟨h1,h2,rfl,rfl⟩
  have hl2:(upd H l (.lst (xs.take mm))) l=some (.lst (xs.take mm)):=aa;have hc2:(upd H l (.lst (xs.take mm))) c=some (.tup [.int m,v]):=(ax nc).trans hc;have hlen:(xs.take mm).length=mm:=by rw[List.length_take];omega
  refine⟨_,rfl,_,_,rfl,.inl (bD.of hl2),_,rfl,_,_,_,_,rfl,rfl,tK.of hc2,ar (j:=0) rfl,_,_,rfl,rfl,_,rfl,?_⟩;refine eM (fun h=>?_) (fun h=>?_)
  ·have hlt:m<mm:=by
    have:=iA h;rw[hlen]at this;omega
   refine⟨_,fun σ' H' hN=>hN,?_⟩;have hg:(xs.take mm)[(xs.take mm).length-1]?=some (xs[mm-1]'(by omega)):=by
    rw[hlen,List.getElem?_take,if_pos (by omega),List.getElem?_eq_getElem]
   refine⟨_,rfl,.inl ⟨rfl,_,bD.of hl2⟩,_,_,_,rfl,rfl,hl2,hg,?_⟩;refine⟨mm-1,by omega,by omega,by omega,rfl,?_⟩;rw[jz]
   congr 2
   rw[List.dropLast_eq_take,hlen,List.take_take]
   congr 1
   omega
  ·have he:mm=m:=by
    have:¬m<mm:=fun z=>h (decide_eq_true (by rw[hlen];omega))
    omega
   subst he;refine⟨_,rfl,_,_,_,_,rfl,rfl,tK.of hc2,ar (j:=0) rfl,_,_,rfl,rfl,_,rfl,?_⟩;unfold J0 at k0;refine eM (fun h=>?_) (fun h=>?_)
   ·have hpos:0<mm:=by have:=iA h;omega
    rw[if_pos hpos]at k0;have e1:(xs.take mm).length=(mm-1)+1:=by omega
    refine⟨_,rfl,_,_,_,_,rfl,rfl,tK.of hc2,ar (j:=1) rfl,_,rfl,_,rfl,_,_,_,_,rfl,rfl,hl2,(by rw[e1];exact DQ),?_⟩;rw[jz];exact k0
   ·have hz:mm=0:=by
     have:¬0<mm:=fun z=>h (decide_eq_true (by omega))
     omega
    subst hz;rw[if_neg (by omega)]at k0;exact k0
end
end Sb
namespace Sb
open PySem L2
section
variable{P:Program}{w:World}{K:PySem.W.Frag}{mg:Str→Option Value}{base:Heap}{a:Ad}
structure Tail{α:Type}(O:α→HO→Prop)(H:Hp)(t:Tag)(c:Addr)(xs:List α):Prop where
 tg:t c=0
 ob:∃ v,H c=some (.tup [.int xs.length,v])∧∀ ps x,xs=ps++[x]→∃ p o,v=.ref p∧t p=0∧H p=some o∧O x o
structure LJ(H:Hp)(t:Tag)(c:Addr)(xs:List Sh11.Bytes):Prop where
 tg:t c=0
 ob:∃ v,H c=some (.tup [.int xs.length,v])∧∀ ps x,xs=ps++[x]→v=.str (strOf x)
theorem Tail.step{α:Type}{O:α→HO→Prop}{H H':Hp}{t t':Tag}{c:Addr}{xs:List α}{R:Nat→Prop}(h:Tail O H t c xs)(s:Step R H t H' t')(h0:¬R 0):Tail O H' t' c xs:=by
 obtain⟨v,hc,hv⟩:=h.ob;obtain⟨k1,k2⟩:=s.ei h0 hc h.tg;refine⟨k2,v,k1,fun ps x e=>?_⟩;obtain⟨p,o,e1,tp,hp,hO⟩:=hv ps x e;obtain⟨k3,k4⟩:=s.ei h0 hp tp;exact⟨p,o,e1,k4,k3,hO⟩
theorem LJ.step{H H':Hp}{t t':Tag}{c:Addr}{xs:List Sh11.Bytes}{R:Nat→Prop}(h:LJ H t c xs)(s:Step R H t H' t')(h0:¬R 0):LJ H' t' c xs:=by
 obtain⟨v,hc,hv⟩:=h.ob;obtain⟨k1,k2⟩:=s.ei h0 hc h.tg;exact⟨k2,v,k1,hv⟩
theorem Objs.tail{α:Type}{O:α→HO→Prop}{H H':Hp}{t:Tag}{l c:Addr}{ps:List Addr}{xs:List α}(h:Objs O H t l ps xs)(s:a6 H H')(hc:H' c=some (.tup [.int (ps.map V.ref).length,wG (ps.map V.ref)]))(tc:t c=0):Tail O H' t c xs:=by
 refine⟨tc,wG (ps.map V.ref),by rw[hc,List.length_map,h.len],fun qs x e=>?_⟩;subst e;obtain⟨rs,p,o,e1,e2,tp,hp,hO,_⟩:=h.last;refine⟨p,o,?_,tp,s _ _ hp,hO⟩;subst e1;unfold wG;simp
structure QP where
 c:Addr
 te:Addr
 sa:Addr
 bl:Addr
 fl:Addr
 tt:Addr
 c1:Addr
 c2:Addr
 c3:Addr
 c4:Addr
 bs:List Addr
 fs:List Addr
structure yz(a:Ad)(H:Hp)(t:Tag)(S:QP)(n:N.ak):Prop where
 ob:H S.c=some (.tup [.int n.ended,.ref S.te,.ref S.sa,.ref S.bl,.ref S.fl,.ref S.tt])
 tc:t S.c=0
 ends:H S.te=some (.lst [.int n.e0,.int n.e1])
 S0:t S.te=0
 sums:∃ o,H S.sa=some o∧JR a n.sums o
 Sz:t S.sa=0
 bats:Objs (JB a) H t S.bl S.bs n.bats
 OB:t S.bl=0
 aI:Objs (Jz a) H t S.fl S.fs n.aI
 Tc:t S.fl=0
 tt:H S.tt=some (.tup [.ref S.c1,.ref S.c2,.ref S.c3,.ref S.c4])
 Tg:t S.tt=0
 o1:Tail (KR a) H t S.c1 n.overs
 o2:LJ H t S.c2 n.told
 o3:Tail Lh H t S.c3 n.falls
 o4:Tail (Ie a) H t S.c4 n.stands
theorem yz.step{H H':Hp}{t t':Tag}{S:QP}{n:N.ak}{R:Nat→Prop}(h:yz a H t S n)(s:Step R H t H' t')(h0:¬R 0):yz a H' t' S n:=by
 obtain⟨o,ho,hO⟩:=h.sums;have k1:=s.ei h0 h.ob h.tc;have k2:=s.ei h0 h.ends h.S0;have k3:=s.ei h0 ho h.Sz;have k4:=s.ei h0 h.bats.lst h.OB;have k5:=s.ei h0 h.aI.lst h.Tc;have k6:=s.ei h0 h.tt h.Tg;exact⟨k1.1,k1.2,k2.1,k2.2,⟨o,k3.1,hO⟩,k3.2,h.bats.step s h0 (k4.1.trans h.bats.lst.symm),k4.2,h.aI.step s h0 (k5.1.trans h.aI.lst.symm),k5.2,k6.1,k6.2,h.o1.step s h0,h.o2.step s h0,h.o3.step s h0,h.o4.step s h0⟩
theorem Objs.copy{α:Type}{O:α→HO→Prop}{H H':Hp}{t:Tag}{l q:Addr}{ps:List Addr}{xs:List α}(h:Objs O H t l ps xs)(s:a6 H H')(hq:H' q=some (.lst (ps.map V.ref))):Objs O H' t q ps xs:=
 ⟨hq,h.len,fun j p x hp hx=>by
  obtain⟨ht,o,ho,hO⟩:=h.at_ j p x hp hx
  exact⟨ht,o,s _ _ ho,hO⟩⟩
inductive yU(a:Ad)(vs:List V)(H:Hp)(Q:VK):Prop
 |mk(t:Tag)(k:Nat)(A:cO)(n:N.ak)(_:vs=[.ref A.p])(_:bf a H t k A n)(_:Fr H t)(_:∀ H' S,a6 H H'→H S.te=none→H S.bl=none→H S.fl=none→yz a H' t S n→Q (.ref S.c) H')
def yd(a:Ad):Sp:=fun vs H Q _=>yU a vs H Q
theorem oE:ao ["self","tails"] ["self"] (ai kO):=⟨rfl,rfl,rfl,by decide +kernel,rfl,by decide +kernel,by decide +kernel⟩
theorem xZ(T:Txt K mg a):aZ P w K mg base cG 2 (a.f 63) (a.d 63) ["self"] (yd a):=by
 refine T.Innings.qv.F.ok oE (fun vs H Q E h=>?_) (fun cdv A outer s H vs Q E hr h=>?_)
 ·obtain⟨t,k,A,n,rfl,_⟩:=h;rfl
 ·obtain⟨t,k,A,n,rfl,I,fr,k0⟩:=h;refine⟨_,(ae (aX (i:=1) oE.nd rfl (Or.inl rfl) (AV (aK (bC (tY T) (hr.mono (by decide)) rfl T.fn.my T.fn.jv.F.kp T.fn.jv.b au (aK (af (pv 0) rfl) ah)) (aK (bC (tY T) (hr.mono (by decide)) rfl T.fn.my T.fn.jv.F.kp T.fn.jv.b au (aK (af (pv 0) rfl) ah)) (aK (bC (tY T) (hr.mono (by decide)) rfl T.fn.my T.fn.jv.F.kp T.fn.jv.b au (aK (af (pv 0) rfl) ah)) (aK (bC (tY T) (hr.mono (by decide)) rfl T.fn.my T.fn.jv.F.kp T.fn.jv.b au (aK (af (pv 0) rfl) ah)) ah)))))) (ag (ay (AV (aK (af (pv 0) rfl) (aK (gG eK rfl T.fn.pV PyProof.Rows.boot_list (aK (af (pv 0) rfl) ah)) (aK (af (pv 0) rfl) (aK (gG eK rfl T.fn.pV PyProof.Rows.boot_list (aK (af (pv 0) rfl) ah)) (aK (gG eK rfl T.fn.pV PyProof.Rows.boot_list (aK (af (pv 0) rfl) ah)) (aK (pv 1) ah)))))))))),?_⟩;refine⟨_,rfl,_,_,_,_,_,rfl,I.ob,T.Innings.cl,T.Innings.dz,a9,_,_,rfl,I.overs.lst,fun c1 hc1=>?_⟩;have s1:=aA (o:=.tup [.int (A.os.map V.ref).length,wG (A.os.map V.ref)]) hc1;have I1:=I.same s1;refine⟨_,rfl,_,_,_,_,_,rfl,I1.ob,T.Innings.cl,T.Innings.sh,fi,_,_,rfl,I1.told,fun c2 hc2=>?_⟩;have s2:=aA (o:=.tup [.int (n.told.map fun b=>V.str (strOf b)).length,wG (n.told.map fun b=>V.str (strOf b))]) hc2;have I2:=I1.same s2;refine⟨_,rfl,_,_,_,_,_,rfl,I2.ob,T.Innings.cl,T.Innings.rn,hV,_,_,rfl,I2.falls.lst,fun c3 hc3=>?_⟩;have s3:=aA (o:=.tup [.int (A.ls.map V.ref).length,wG (A.ls.map V.ref)]) hc3;have I3:=I2.same s3;refine⟨_,rfl,_,_,_,_,_,rfl,I3.ob,T.Innings.cl,T.Innings.jX,dJ,_,_,rfl,I3.stands.lst,fun c4 hc4=>?_⟩;have s4:=aA (o:=.tup [.int (A.ss.map V.ref).length,wG (A.ss.map V.ref)]) hc4;have I4:=I3.same s4;refine⟨(by show 4≤sizeLine;decide),fun tt htt=>?_⟩;have s5:=aA (o:=.tup [.ref c1,.ref c2,.ref c3,.ref c4]) htt;have I5:=I4.same s5;refine⟨_,rfl,_,_,_,_,_,rfl,I5.ob,T.Innings.cl,T.Innings.gm,nV,_,rfl,_,_,_,_,_,rfl,I5.ob,T.Innings.cl,T.Innings.dP,bh,_,_,rfl,.inl (bD.of I5.ends),fun te hte=>?_⟩;have s6:=aA (o:=.lst [.int n.e0,.int n.e1]) hte;have I6:=I5.same s6;refine⟨_,rfl,_,_,_,_,_,rfl,I6.ob,T.Innings.cl,T.Innings.kE,di,_,rfl,_,_,_,_,_,rfl,I6.ob,T.Innings.cl,T.Innings.cH,bq,_,_,rfl,.inl (bD.of I6.bats.lst),fun bl hbl=>?_⟩;have s7:=aA (o:=.lst (A.bs.map V.ref)) hbl;have I7:=I6.same s7;refine⟨_,rfl,_,_,_,_,_,rfl,I7.ob,T.Innings.cl,T.Innings.ij,d8,_,_,rfl,.inl (bD.of I7.aI.lst),fun fl hfl=>?_⟩;have s8:=aA (o:=.lst (A.fs.map V.ref)) hfl;have I8:=I7.same s8;refine⟨_,rfl,(by show 6≤sizeLine;decide),fun c hc=>?_⟩;have s9:=aA (o:=.tup [.int n.ended,.ref te,.ref A.sums,.ref bl,.ref fl,.ref tt]) hc;have r8:=s9;have r7:=s8.trans r8;have r6:=s7.trans r7;have r5:=s6.trans r6;have r4:=s5.trans r5;have r3:=s4.trans r4;have r2:=s3.trans r3;have r1:=s2.trans r2;have r0:=s1.trans r1;have q1:=s1;have q2:=q1.trans s2;have q3:=q2.trans s3;have q4:=q3.trans s4;have q5:=q4.trans s5;have q6:=q5.trans s6;have q7:=q6.trans s7;have q8:=q7.trans s8;obtain⟨os,hos,hOs⟩:=I.sums
  refine k0 _ ⟨c,te,A.sums,bl,fl,tt,c1,c2,c3,c4,A.bs,A.fs⟩ r0 (q5.free hte) (q6.free hbl) (q7.free hfl) ⟨aa,fr c (q8.free hc),r6 _ _ aa,fr te (q5.free hte),⟨os,r0 _ _ hos,hOs⟩,I.rk,I.bats.copy r0 (r7 _ _ aa),fr bl (q6.free hbl),I.aI.copy r0 (r8 _ _ aa),fr fl (q7.free hfl),r5 _ _ aa,fr tt (q4.free htt),
   I.overs.tail r0 (r1 _ _ aa) (fr c1 hc1),⟨fr c2 (q1.free hc2),_,by rw[r2 _ _ aa,List.length_map],fun ps x e=>?_⟩,I.falls.tail r0 (r3 _ _ aa) (fr c3 (q2.free hc3)),I.stands.tail r0 (r4 _ _ aa) (fr c4 (q3.free hc4))⟩
  rw[e];unfold wG;simp
end
end Sb
namespace Sb
open PySem L2
section
variable{P:Program}{w:World}{K:PySem.W.Frag}{mg:Str→Option Value}{base:Heap}{a:Ad}
theorem Objs.cut{α:Type}{O:α→HO→Prop}{H:Hp}{t:Tag}{l:Addr}{ps:List Addr}{xs xs0:List α}{v:V}(h:Objs O H t l ps xs)(g:N.Gr xs0 xs)(hv:∀ qs x,xs0=qs++[x]→∃ p o,v=.ref p∧t p=0∧H p=some o∧O x o)(hl:t l≠0) :
  ∃ ps',Objs O (upd H l (.lst (J0 (ps.map V.ref) xs0.length v))) t l ps' xs0:=by
 rcases aq.a8 xs0 with e|⟨ys,x,e⟩
 ·subst e;exact⟨[],by rw[aa];rfl,rfl,fun j p x hp=>by simp at hp⟩
 ·subst e;obtain⟨p,o,rfl,tp,hp,hO⟩:=hv ys x rfl;have hb:=g.back;obtain⟨g1,g2⟩:=g;have e1:(ys++[x]).length=ys.length+1:=by simp
  have e2:ys.length+1≤ps.length:=by rw[h.len,←e1];exact g1
  refine⟨(ps.take (ys.length+1)).set ys.length p,?_,?_,?_⟩
  ·rw[aa];unfold J0;rw[e1,if_pos (by omega),Nat.add_sub_cancel,List.map_set,List.map_take]
  ·rw[List.length_set,List.length_take,e1];omega
  ·intro j q y hq hy;by_cases ej:j=ys.length
   ·subst ej;rw[List.getElem?_set_self (by rw[List.length_take];omega)]at hq;have:x=y:=by simpa using hy
    subst this;cases hq;exact⟨tp,o,by rw[ax (fun e=>hl (by rw[←e];exact tp))];exact hp,hO⟩
   ·rw[List.getElem?_set_ne (Ne.symm ej)]at hq;have hj:j<ys.length:=by
     have:=(List.getElem?_eq_some_iff.mp hy).1;rw[e1]at this;omega
    rw[List.getElem?_take,if_pos (by omega)]at hq;have hx:xs[j]?=some y:=by
     rw[e1,Nat.add_sub_cancel]at g2;have e3:=congrArg (fun l=>l[j]?) g2;simp only[List.getElem?_take]at e3;rw[if_pos hj,if_pos hj,hy]at e3;exact e3
    obtain⟨tq,o',ho',hO'⟩:=h.at_ j q y hq hx;exact⟨tq,o',by rw[ax (fun e=>hl (by rw[←e];exact tq))];exact ho',hO'⟩
theorem Nr{xs xs0:List Sh11.Bytes}{v:V}(g:N.Gr xs0 xs)(hv:∀ qs x,xs0=qs++[x]→v=.str (strOf x)):J0 (xs.map fun b=>V.str (strOf b)) xs0.length v=xs0.map fun b=>V.str (strOf b):=by
 rcases aq.a8 xs0 with e|⟨ys,x,e⟩
 ·subst e;rfl
 ·subst e;have hb:=g.back;rw[hv ys x rfl];unfold J0;rw[if_pos (by simp),←List.map_take];have e2:V.str (strOf x)=(fun b=>V.str (strOf b)) x:=rfl;rw[e2,←List.map_set,hb]
theorem Step.IQ{R:Nat→Prop}{H H':Hp}{t:Tag}{D:Addr}(m:Nat)(s:a6 H H')(hD:H D=none)(hD':H' D≠none):Step R H t H' (cn t D m):=by
 refine⟨fun b o h _=>s b o h,fun b h=>eR fun e=>h (by rw[e];exact hD),fun b h=>?_,fun h b e=>?_⟩
 ·cases q:H b with
  |none=>exact absurd q h
  |some o=>rw[s b o q];simp
 ·have:b≠D:=fun z=>hD' (by rw[←z];exact e)
  rw[eR this];exact h b (s.free e)
theorem Objs.tagged{α:Type}{O:α→HO→Prop}{H:Hp}{t:Tag}{l q:Addr}{ps:List Addr}{xs:List α}{m:Nat}(h:Objs O H t l ps xs)(hq:H q=none):Objs O (upd H q (.lst (ps.map V.ref))) (cn t q m) q ps xs:=
 ⟨aa,h.len,fun j p x hp hx=>by
  obtain⟨ht,o,ho,hO⟩:=h.at_ j p x hp hx;have:p≠q:=aQ ho hq
  exact⟨(eR this).trans ht,o,(ax this).trans ho,hO⟩⟩
inductive Ar(a:Ad)(vs:List V)(H:Hp)(Q:VK):Prop
 |mk(t:Tag)(k:Nat)(A:cO)(n n0:N.ak)(S:QP)(_:vs=[.ref A.p,.ref S.c])(_:bf a H t k A n)(_:Fr H t)(_:yz a H t S n0)(_:N.jg n0 n)(_:Ao a H t k A n0 (Q .non))
def y3(a:Ad):Sp:=fun vs H Q _=>Ar a vs H Q
theorem pQ:ao ["self","old","tails"] ["self","old"] (ai k7):=⟨rfl,rfl,rfl,by decide +kernel,rfl,by decide +kernel,by decide +kernel⟩
theorem ze(T:Txt K mg a):aZ P w K mg base cG 2 (a.f 64) (a.d 64) ["self","old"] (y3 a):=by
 refine T.Innings.qY.F.ok pQ (fun vs H Q E h=>?_) (fun cdv A outer s H vs Q E hr h=>?_)
 ·obtain⟨t,k,A,n,n0,S,rfl,_⟩:=h;rfl
 ·obtain⟨t,k,A,n,n0,S,rfl,I,fr,Sn,gw,k0⟩:=h;refine⟨_,(ae (aW (pv 0) (aM dU (pv 1) aj (fun _ _=>rfl)) rfl) (ae (aW (pv 0) (gG eK rfl T.fn.pV PyProof.Rows.boot_list (aK (aM dU (pv 1) aj (fun _ _=>rfl)) ah)) rfl) (ae (aW (pv 0) (aM dU (pv 1) aj (fun _ _=>rfl)) rfl) (ae (aW (pv 0) (gG eK rfl T.fn.pV PyProof.Rows.boot_list (aK (aM dU (pv 1) aj (fun _ _=>rfl)) ah)) rfl) (ae (aW (pv 0) (gG eK rfl T.fn.pV PyProof.Rows.boot_list (aK (aM dU (pv 1) aj (fun _ _=>rfl)) ah)) rfl) (ae (aX (i:=2) pQ.nd rfl (Or.inl rfl) (aM dU (pv 1) aj (fun _ _=>rfl))) (ae (br (bC (rg T) (hr.mono (by decide)) rfl T.fn.kQ T.fn.g4.F.kp T.fn.g4.b au (aK (af (pv 0) rfl) (aK (aM dU (pv 2) aj (fun _ _=>rfl)) ah)))) (ae (br (bC (rg T) (hr.mono (by decide)) rfl T.fn.kQ T.fn.g4.F.kp T.fn.g4.b au (aK (af (pv 0) rfl) (aK (aM dU (pv 2) aj (fun _ _=>rfl)) ah)))) (ae (br (bC (rg T) (hr.mono (by decide)) rfl T.fn.kQ T.fn.g4.F.kp T.fn.g4.b au (aK (af (pv 0) rfl) (aK (aM dU (pv 2) aj (fun _ _=>rfl)) ah)))) (ag (br (bC (rg T) (hr.mono (by decide)) rfl T.fn.kQ T.fn.g4.F.kp T.fn.g4.b au (aK (af (pv 0) rfl) (aK (aM dU (pv 2) aj (fun _ _=>rfl)) ah)))))))))))))),?_⟩;refine⟨_,rfl,_,_,_,_,rfl,rfl,tK.of Sn.ob,ar (j:=0) rfl,_,rfl,_,_,_,_,rfl,I.ob,T.Innings.cl,T.Innings.gm,bu,?_⟩;obtain⟨I1,st1⟩:=I.jV n0.ended;rw[BD n0.ended];have Sn1:=Sn.step st1 sx;refine⟨_,rfl,_,_,_,_,rfl,rfl,tK.of Sn1.ob,ar (j:=1) rfl,_,_,rfl,.inl (bD.of Sn1.ends),fun q2 hq2=>?_⟩;have st2:Step (fun _=>False) _ t (upd _ q2 (.lst [.int n0.e0,.int n0.e1])) (cn t q2 (8*(k+1)+1)):=Step.new _ hq2;have I2:=I1.step st2 (fun h=>h) (fun _ _ h=>h);have Sn2:=Sn1.step st2 (fun h=>h);refine⟨_,rfl,_,_,_,_,rfl,I2.ob,T.Innings.cl,T.Innings.dP,bu,?_⟩;obtain⟨I3,st3⟩:=I2.Dw (q:=q2) (x:=n0.e0) (y:=n0.e1) aa ck;rw[xD q2 n0.e0 n0.e1];have Sn3:=Sn2.step st3 sx;obtain⟨os,hos,hOs⟩:=Sn3.sums;refine⟨_,rfl,_,_,_,_,rfl,rfl,tK.of Sn3.ob,ar (j:=2) rfl,_,rfl,_,_,_,_,rfl,I3.ob,T.Innings.cl,T.Innings.kE,bu,?_⟩;obtain⟨I4,st4⟩:=I3.Hf (q:=S.sa) (y:=n0.sums) hos hOs Sn3.Sz;rw[Ej S.sa n0.sums];have Sn4:=Sn3.step st4 sx;refine⟨_,rfl,_,_,_,_,rfl,rfl,tK.of Sn4.ob,ar (j:=3) rfl,_,_,rfl,.inl (bD.of Sn4.bats.lst),fun q5 hq5=>?_⟩;have st5:Step (fun _=>False) _ (cn t q2 (8*(k+1)+1)) (upd _ q5 (.lst (S.bs.map V.ref))) (cn (cn t q2 (8*(k+1)+1)) q5 (8*(k+1)+2)):=Step.new _ hq5;have I5:=I4.step st5 (fun h=>h) (fun _ _ h=>h);have Sn5:=Sn4.step st5 (fun h=>h);refine⟨_,rfl,_,_,_,_,rfl,I5.ob,T.Innings.cl,T.Innings.cH,bu,?_⟩;obtain⟨I6,st6⟩:=I5.O0 (Sn4.bats.tagged hq5) ck;rw[Nf q5 S.bs];have Sn6:=Sn5.step st6 sx;refine⟨_,rfl,_,_,_,_,rfl,rfl,tK.of Sn6.ob,ar (j:=4) rfl,_,_,rfl,.inl (bD.of Sn6.aI.lst),fun q7 hq7=>?_⟩;have st7:Step (fun _=>False) _ (cn (cn t q2 (8*(k+1)+1)) q5 (8*(k+1)+2)) (upd _ q7 (.lst (S.fs.map V.ref))) (cn (cn (cn t q2 (8*(k+1)+1)) q5 (8*(k+1)+2)) q7 (8*(k+1)+3)):=Step.new _ hq7;have I7:=I6.step st7 (fun h=>h) (fun _ _ h=>h);have Sn7:=Sn6.step st7 (fun h=>h);refine⟨_,rfl,_,_,_,_,rfl,I7.ob,T.Innings.cl,T.Innings.ij,bu,?_⟩;obtain⟨I8,st8⟩:=I7.OY (Sn6.aI.tagged hq7) ck;rw[Ow q7 S.fs];have Sn8:=Sn7.step st8 sx;refine⟨_,rfl,_,_,_,_,rfl,rfl,tK.of Sn8.ob,ar (j:=5) rfl,?_⟩;obtain⟨v1,hv1,hw1⟩:=Sn8.o1.ob;refine⟨_,rfl,_,_,_,_,_,rfl,I8.ob,T.Innings.cl,T.Innings.dz,a9,_,rfl,_,_,_,_,rfl,rfl,tK.of Sn8.tt,ar (j:=0) rfl,_,_,_,_,_,rfl,I8.overs.lst,hv1,(by rw[List.length_map,I8.overs.len];exact gw.overs.1),?_⟩;obtain⟨ps9,J9⟩:=I8.overs.cut (xs0:=n0.overs) gw.overs hw1 (tM I8.dj);obtain⟨I9,st9⟩:=I8.E7 J9;have Sn9:=Sn8.step st9 sx;obtain⟨v2,hv2,hw2⟩:=Sn9.o2.ob;refine⟨_,rfl,_,_,_,_,_,rfl,I9.ob,T.Innings.cl,T.Innings.sh,fi,_,rfl,_,_,_,_,rfl,rfl,tK.of Sn9.tt,ar (j:=1) rfl,_,_,_,_,_,rfl,I9.told,hv2,(by rw[List.length_map];exact gw.told.1),?_⟩;have ct:J0 (n.told.map fun b=>V.str (strOf b)) n0.told.length v2=n0.told.map fun b=>V.str (strOf b):=Nr gw.told hw2
  rw[ct];obtain⟨Ia,sta⟩:=I9.LQ n0.told;have Sna:=Sn9.step sta sx;obtain⟨v3,hv3,hw3⟩:=Sna.o3.ob;refine⟨_,rfl,_,_,_,_,_,rfl,Ia.ob,T.Innings.cl,T.Innings.rn,hV,_,rfl,_,_,_,_,rfl,rfl,tK.of Sna.tt,ar (j:=2) rfl,_,_,_,_,_,rfl,Ia.falls.lst,hv3,(by rw[List.length_map,Ia.falls.len];exact gw.falls.1),?_⟩;obtain⟨psb,Jb⟩:=Ia.falls.cut (xs0:=n0.falls) gw.falls hw3 (tM Ia.dv);obtain⟨Ib,stb⟩:=Ia.IP Jb;have Snb:=Sna.step stb sx;obtain⟨v4,hv4,hw4⟩:=Snb.o4.ob;refine⟨_,rfl,_,_,_,_,_,rfl,Ib.ob,T.Innings.cl,T.Innings.jX,dJ,_,rfl,_,_,_,_,rfl,rfl,tK.of Snb.tt,ar (j:=3) rfl,_,_,_,_,_,rfl,Ib.stands.lst,hv4,(by rw[List.length_map,Ib.stands.len];exact gw.stands.1),?_⟩;obtain⟨psc,Jc⟩:=Ib.stands.cut (xs0:=n0.stands) gw.stands hw4 (tM Ib.cg);obtain⟨Ic,stc⟩:=Ib.xF Jc;have up:∀{H1 H2:Hp}{t1 t2:Tag},Step (fun _=>False) H1 t1 H2 t2→Step (inR k) H1 t1 H2 t2:=fun s=>s.mono fun _ h=>h.elim
  have st:=(((((((((((st1.trans (up st2)).trans st3).trans st4).trans (up st5)).trans st6).trans (up st7)).trans st8).trans st9).trans sta).trans stb).trans stc)
  obtain⟨sd,ln,en,e0,e1,sm,bt,fg,ov,tl,fa,sn⟩:=n0;have e1:=gw.side;have e2:=gw.len;simp only[]at e1 e2;subst e1 e2;exact k0.go Ic st rfl
end
end Sb
namespace Sb
open PySem L2
section
variable{P:Program}{w:World}{K:PySem.W.Frag}{mg:Str→Option Value}{base:Heap}{a:Ad}
structure Made(c:Addr)(F:List (Str×V))(D:Addr)(H:Hp)(i:Nat)(H':Hp)(ps:List Addr):Prop where
 len:ps.length=i
 lst:H' D=some (.lst (ps.map V.ref))
 same:a6 H H'
 Rk:∀ p∈ps,H p=none∧∃ dx,H' p=some (.ins c dx F)
theorem Made.zero{c D:Addr}{F:List (Str×V)}{H:Hp}(hD:H D=none):Made c F D H 0 (upd H D (.lst [])) []:=⟨rfl,aa,aA hD,fun p h=>by simp at h⟩
theorem Made.next{c D q dq:Addr}{F:List (Str×V)}{H H1 H2:Hp}{i:Nat}{ps:List Addr}(hD:H D=none)(m:Made c F D H i H1 ps)(s:a6 H1 H2)(nq:H1 q=none)(hq:H2 q=some (.ins c dq F)):Made c F D H (i+1) (upd H2 D (.lst (ps.map V.ref++[.ref q]))) (ps++[q]):=by
 have s2:=m.same.trans s;refine⟨by simp[m.len],by rw[aa,List.map_append];rfl,fun b u h=>by rw[ax (aQ h hD)];exact s2 _ _ h,fun p hp=>?_⟩;have nD:∀{b:Addr}{u:List (Str×V)}{dx:Addr},H2 b=some (.ins c dx u)→b≠D:=fun h e=>by
  rw[e,s _ _ m.lst]at h;cases h
 rcases List.mem_append.mp hp with z|z
 ·obtain⟨h1,dx,h2⟩:=m.Rk p z;have h3:=s _ _ h2;exact⟨h1,dx,by rw[ax (nD h3)];exact h3⟩
 ·rw[List.mem_singleton.mp z];exact⟨m.same.free nq,dq,by rw[ax (nD hq)];exact hq⟩
theorem Made.objs{α:Type}{c D:Addr}{F:α→List (Str×V)}{x:α}{H H':Hp}{t t':Tag}{i:Nat}{ps:List Addr}{O:α→HO→Prop}(m:Made c (F x) D H i H' ps)(fr:Fr H t)(hD:H D=none)(ht:∀ b,b≠D→t' b=t b)(hO:∀ dx,O x (.ins c dx (F x))):Objs O H' t' D ps (List.replicate i x):=by
 refine⟨m.lst,by simp[m.len],fun j p y hp hy=>?_⟩;obtain⟨h1,dx,h2⟩:=m.Rk p (List.mem_of_getElem? hp);have e:x=y:=(List.eq_of_mem_replicate (List.mem_of_getElem? hy)).symm;subst e;have nd:p≠D:=fun e=>by rw[e,m.lst]at h2;cases h2
 exact⟨(ht p nd).trans (fr p h1),_,h2,hO dx⟩
inductive Ed(a:Ad)(vs:List V)(H:Hp)(Q:VK):Prop
 |mk(t:Tag)(k:Nat)(p dx:Addr)(sd ln s o:Nat)(_:vs=[.ref p,.int sd,.int ln,.int s,.int o])(_:H p=some (.ins (a.c 6) dx []))(_:Fr H t)(_:s≤10)(_:o≤10)(_:∀ H' t' A',A'.p=p→bf a H' t' k A' (N.ak.start sd ln s o)→(∀ b u,H b=some u→b≠p→¬inR k (t b)→H' b=some u)→(∀ b,H b≠none→b≠p→t' b=t b)→(∀ b,H b≠none→H' b≠none)→Fr H' t'→Q .non H')
def CU(a:Ad):Sp:=fun vs H Q _=>Ed a vs H Q
theorem hU:ao ["self","side","over_length","striker","other","player"] ["self","side","over_length","striker","other"] (ai qk):=⟨rfl,rfl,rfl,by decide +kernel,rfl,by decide +kernel,by decide +kernel⟩
theorem Cn(T:Txt K mg a):aZ P w K mg base cG 5 (a.f 39) (a.d 39) ["self","side","over_length","striker","other"] (CU a):=by
 refine T.Innings.wM.F.ok hU (fun vs H Q E h=>?_) (fun cdv A outer s H vs Q E hr h=>?_)
 ·obtain⟨t,k,p,dx,sd,ln,st,ot,rfl,_⟩:=h;rfl
 ·obtain⟨t,k,p,dx,sd,ln,st,ot,rfl,hp,fr,hs,ho,k0⟩:=h;refine⟨_,(ae (aW (pv 0) (pv 1) rfl) (ae (aW (pv 0) (pv 2) rfl) (ae (aW (pv 0) (aN rfl T.fn.pq) rfl) (ae (aW (pv 0) (bO (aK (pv 3) (aK (pv 4) ah))) rfl) (ae (aW (pv 0) (dh T.bB.vg (vb T) (hr.mono (by decide)) rfl T.bB.AF T.bB.rp.b au (aK aj (aK aj (aK aj (aK aj (aK aj (aK aj (aK aj ah)))))))) rfl) (ae (aW (pv 0) (B3 rfl hU.nd (Ga rfl T.fn.Dv (aK (aN rfl T.fn.gz) ah)) (lL (own:=[("player",5)]) (by kernel_rfl)) (fun _ _ _ _ _=>mY (i:=5) hU.nd rfl (Or.inl rfl)) (fun _ _ _ _ _=>by exact xC) (fun _ _ _ _ _=>by exact (IU (FH T) (hr.mono (by decide)) rfl T.fn.oP T.fn.t7.F.kp T.fn.t7.b .nil au ))) rfl) (ae (aW (pv 0) (B3 rfl hU.nd (Ga rfl T.fn.Dv (aK (aN rfl T.fn.gz) ah)) (lL (own:=[("player",5)]) (by kernel_rfl)) (fun _ _ _ _ _=>mY (i:=5) hU.nd rfl (Or.inl rfl)) (fun _ _ _ _ _=>by exact xC) (fun _ _ _ _ _=>by exact (IU (D7 T) (hr.mono (by decide)) rfl T.fn.mX T.fn.rW.F.kp T.fn.rW.b .nil au ))) rfl) (ae (aW (pv 0) (bO ah) rfl) (ae (aW (pv 0) (bO ah) rfl) (ae (aW (pv 0) (bO ah) rfl) (ae (aW (pv 0) (bO (aK (dh T.Stand.vg (r9 T) (hr.mono (by decide)) rfl T.Stand.AF T.Stand.oQ.b au (aK (pv 3) (aK (pv 4) (aK aj (aK aj ah))))) ah)) rfl) (ae (br (aU (pv 0) T.Innings.cl T.Innings.c6 (il T) (hr.mono (by decide)) T.Innings.fU.b au (aK (pv 3) ah))) (ag (br (aU (pv 0) T.Innings.cl T.Innings.c6 (il T) (hr.mono (by decide)) T.Innings.fU.b au (aK (pv 4) ah)))))))))))))))),?_⟩
  have fr0:Fr H (cn t p (8*(k+1))):=fun b e=>by rw[eR (fun z=>by rw[z,hp]at e;cases e)];exact fr b e
  have tp0:(cn t p (8*(k+1))) p=8*(k+1):=ck;refine⟨_,rfl,_,rfl,_,_,_,_,rfl,hp,T.Innings.cl,T.Innings.pF,Nat.lt_of_le_of_lt (Nat.le_refl 0) (by decide),?_⟩;have S1:Step (fun m=>m=8*(k+1)) H (cn t p (8*(k+1))) (upd H p (.ins (a.c 6) dx (aw "side" (.int sd) []))) (cn t p (8*(k+1))):=Step.upd hp tp0
  have fr_S1:=S1.fr fr0
  generalize e_S1:(upd H p (.ins (a.c 6) dx (aw "side" (.int sd) [])))=H_S1 at *
  have hp_S1:H_S1 p=some (.ins (a.c 6) dx (aw "side" (.int sd) [])):=by rw[←e_S1];exact aa
  clear e_S1;refine⟨_,rfl,_,rfl,_,_,_,_,rfl,hp_S1,T.Innings.cl,T.Innings.dO,Nat.lt_of_le_of_lt (lp (Nat.le_refl 0)) (by decide),?_⟩;have S2:Step (fun m=>m=8*(k+1)) H_S1 (cn t p (8*(k+1))) (upd H_S1 p (.ins (a.c 6) dx (aw "over_length" (.int ln) (aw "side" (.int sd) [])))) (cn t p (8*(k+1))):=Step.upd hp_S1 tp0
  have fr_S2:=S2.fr fr_S1
  generalize e_S2:(upd H_S1 p (.ins (a.c 6) dx (aw "over_length" (.int ln) (aw "side" (.int sd) []))))=H_S2 at *
  have hp_S2:H_S2 p=some (.ins (a.c 6) dx (aw "over_length" (.int ln) (aw "side" (.int sd) []))):=by rw[←e_S2];exact aa
  clear e_S2;refine⟨_,rfl,_,_,_,_,rfl,hp_S2,T.Innings.cl,T.Innings.gm,Nat.lt_of_le_of_lt (lp (lp (Nat.le_refl 0))) (by decide),?_⟩;have S3:Step (fun m=>m=8*(k+1)) H_S2 (cn t p (8*(k+1))) (upd H_S2 p (.ins (a.c 6) dx (aw "ended" (.int 0) (aw "over_length" (.int ln) (aw "side" (.int sd) []))))) (cn t p (8*(k+1))):=Step.upd hp_S2 tp0
  have fr_S3:=S3.fr fr_S2
  generalize e_S3:(upd H_S2 p (.ins (a.c 6) dx (aw "ended" (.int 0) (aw "over_length" (.int ln) (aw "side" (.int sd) [])))))=H_S3 at *
  have hp_S3:H_S3 p=some (.ins (a.c 6) dx (aw "ended" (.int 0) (aw "over_length" (.int ln) (aw "side" (.int sd) [])))):=by rw[←e_S3];exact aa
  clear e_S3;refine⟨_,rfl,_,rfl,(by show 2≤sizeLine;decide),fun q1 hq1=>?_⟩;have S4:Step (fun m=>m=8*(k+1)) H_S3 (cn t p (8*(k+1))) (upd H_S3 q1 (.lst [.int st,.int ot])) (cn (cn t p (8*(k+1))) q1 (8*(k+1)+1)):=Step.new _ hq1;have hp_S4:(upd H_S3 q1 (.lst [.int st,.int ot])) p=_:=(ax (aQ hp_S3 hq1)).trans hp_S3;have ob_q1:(upd H_S3 q1 (.lst [.int st,.int ot])) q1=some (.lst [.int st,.int ot]):=aa;have tg_q1:(cn (cn t p (8*(k+1))) q1 (8*(k+1)+1)) q1=8*(k+1)+1:=ck;have tp_S4:(cn (cn t p (8*(k+1))) q1 (8*(k+1)+1)) p=8*(k+1):=(S4.tag p (bU hp_S3)).trans tp0;have fr_S4:=S4.fr fr_S3
  generalize e_S4:upd H_S3 q1 (.lst [.int st,.int ot])=H_S4 at *
  generalize u_S4:cn (cn t p (8*(k+1))) q1 (8*(k+1)+1)=t_S4 at *
  clear e_S4 u_S4;refine⟨_,rfl,_,_,_,_,rfl,hp_S4,T.Innings.cl,T.Innings.dP,Nat.lt_of_le_of_lt (lp (lp (lp (Nat.le_refl 0)))) (by decide),?_⟩;have S5:Step (fun m=>m=8*(k+1)) H_S4 t_S4 (upd H_S4 p (.ins (a.c 6) dx (aw "ends" (.ref q1) (aw "ended" (.int 0) (aw "over_length" (.int ln) (aw "side" (.int sd) [])))))) t_S4:=Step.upd hp_S4 tp_S4
  have fr_S5:=S5.fr fr_S4
  generalize e_S5:(upd H_S4 p (.ins (a.c 6) dx (aw "ends" (.ref q1) (aw "ended" (.int 0) (aw "over_length" (.int ln) (aw "side" (.int sd) []))))))=H_S5 at *
  have hp_S5:H_S5 p=some (.ins (a.c 6) dx (aw "ends" (.ref q1) (aw "ended" (.int 0) (aw "over_length" (.int ln) (aw "side" (.int sd) []))))):=by rw[←e_S5];exact aa
  clear e_S5;refine fun q2 dq2 hq2 hdq2 _=>⟨q2,dq2,0,0,0,0,0,0,0,rfl,aa,rfl,?_⟩
  have sm_q2:a6 H_S5 _:=cJ (C:=(a.c 5)) (fs:=[]) (gs:=(iy ⟨0,0,0,0,0,0,0⟩)) hq2 hdq2;have S6:Step (fun m=>m=8*(k+1)) H_S5 t_S4 (upd (upd (upd H_S5 dq2 (.own q2)) q2 (.ins (a.c 5) dq2 [])) q2 (.ins (a.c 5) dq2 (iy ⟨0,0,0,0,0,0,0⟩))) t_S4:=Step.same sm_q2;have hp_S6:=sm_q2 _ _ hp_S5;have ob_q2:(upd (upd (upd H_S5 dq2 (.own q2)) q2 (.ins (a.c 5) dq2 [])) q2 (.ins (a.c 5) dq2 (iy ⟨0,0,0,0,0,0,0⟩))) q2=some (.ins (a.c 5) dq2 (iy ⟨0,0,0,0,0,0,0⟩)):=aa;have tg_q2:t_S4 q2=0:=fr_S5 _ hq2;have fr_S6:=S6.fr fr_S5
  generalize e_S6:(upd (upd (upd H_S5 dq2 (.own q2)) q2 (.ins (a.c 5) dq2 [])) q2 (.ins (a.c 5) dq2 (iy ⟨0,0,0,0,0,0,0⟩)))=H_S6 at *
  clear e_S6;refine⟨_,rfl,_,_,_,_,rfl,hp_S6,T.Innings.cl,T.Innings.kE,Nat.lt_of_le_of_lt (lp (lp (lp (lp (Nat.le_refl 0))))) (by decide),?_⟩;have S7:Step (fun m=>m=8*(k+1)) H_S6 t_S4 (upd H_S6 p (.ins (a.c 6) dx (aw "sums" (.ref q2) (aw "ends" (.ref q1) (aw "ended" (.int 0) (aw "over_length" (.int ln) (aw "side" (.int sd) []))))))) t_S4:=Step.upd hp_S6 tp_S4
  have fr_S7:=S7.fr fr_S6
  generalize e_S7:(upd H_S6 p (.ins (a.c 6) dx (aw "sums" (.ref q2) (aw "ends" (.ref q1) (aw "ended" (.int 0) (aw "over_length" (.int ln) (aw "side" (.int sd) [])))))))=H_S7 at *
  have hp_S7:H_S7 p=some (.ins (a.c 6) dx (aw "sums" (.ref q2) (aw "ends" (.ref q1) (aw "ended" (.int 0) (aw "over_length" (.int ln) (aw "side" (.int sd) [])))))):=by rw[←e_S7];exact aa
  clear e_S7;refine⟨11,rfl,by decide,by decide,fun q3 hq3=>IE (n:=11) (fun i H2=>∃ ps,Made (a.c 1) (dC Sh11.freshBat) q3 H_S7 i H2 ps) ⟨[],Made.zero hq3⟩ ?_ ?_⟩
  ·rintro i H2 hi ⟨ps,m⟩
   exact⟨rfl,rfl,fun H3 r dr s3 nr hr=>⟨_,s3 _ _ m.lst,pA (by rw[List.length_map,m.len];omega),_,m.next hq3 s3 nr hr⟩⟩
  rintro H_S8 ⟨ps_q3,m_q3⟩
  have S8:Step (fun m=>m=8*(k+1)) H_S7 t_S4 H_S8 (cn t_S4 q3 (8*(k+1)+2)):=Step.IQ _ m_q3.same hq3 (bU m_q3.lst);have hp_S8:=m_q3.same _ _ hp_S7;have ob_q3:Objs (JB a) H_S8 (cn t_S4 q3 (8*(k+1)+2)) q3 ps_q3 (List.replicate 11 Sh11.freshBat):=m_q3.objs fr_S7 hq3 (fun b hb=>eR hb) (fun dx=>⟨dx,rfl⟩);have tg_q3:(cn t_S4 q3 (8*(k+1)+2)) q3=8*(k+1)+2:=ck;have tp_S8:(cn t_S4 q3 (8*(k+1)+2)) p=8*(k+1):=(S8.tag p (bU hp_S7)).trans tp_S4;have fr_S8:=S8.fr fr_S7
  generalize u_S8:cn t_S4 q3 (8*(k+1)+2)=t_S8 at *
  clear u_S8;refine⟨_,rfl,_,_,_,_,rfl,hp_S8,T.Innings.cl,T.Innings.cH,Nat.lt_of_le_of_lt (lp (lp (lp (lp (lp (Nat.le_refl 0)))))) (by decide),?_⟩;have S9:Step (fun m=>m=8*(k+1)) H_S8 t_S8 (upd H_S8 p (.ins (a.c 6) dx (aw "batters" (.ref q3) (aw "sums" (.ref q2) (aw "ends" (.ref q1) (aw "ended" (.int 0) (aw "over_length" (.int ln) (aw "side" (.int sd) [])))))))) t_S8:=Step.upd hp_S8 tp_S8
  have fr_S9:=S9.fr fr_S8
  generalize e_S9:(upd H_S8 p (.ins (a.c 6) dx (aw "batters" (.ref q3) (aw "sums" (.ref q2) (aw "ends" (.ref q1) (aw "ended" (.int 0) (aw "over_length" (.int ln) (aw "side" (.int sd) []))))))))=H_S9 at *
  have hp_S9:H_S9 p=some (.ins (a.c 6) dx (aw "batters" (.ref q3) (aw "sums" (.ref q2) (aw "ends" (.ref q1) (aw "ended" (.int 0) (aw "over_length" (.int ln) (aw "side" (.int sd) []))))))):=by rw[←e_S9];exact aa
  clear e_S9;refine⟨11,rfl,by decide,by decide,fun q4 hq4=>IE (n:=11) (fun i H2=>∃ ps,Made (a.c 2) (dY N.sX) q4 H_S9 i H2 ps) ⟨[],Made.zero hq4⟩ ?_ ?_⟩
  ·rintro i H2 hi ⟨ps,m⟩
   exact⟨rfl,rfl,fun H3 r dr s3 nr hr=>⟨_,s3 _ _ m.lst,pA (by rw[List.length_map,m.len];omega),_,m.next hq4 s3 nr hr⟩⟩
  rintro H_S10 ⟨ps_q4,m_q4⟩
  have S10:Step (fun m=>m=8*(k+1)) H_S9 t_S8 H_S10 (cn t_S8 q4 (8*(k+1)+3)):=Step.IQ _ m_q4.same hq4 (bU m_q4.lst);have hp_S10:=m_q4.same _ _ hp_S9;have ob_q4:Objs (Jz a) H_S10 (cn t_S8 q4 (8*(k+1)+3)) q4 ps_q4 (List.replicate 11 N.sX):=m_q4.objs fr_S9 hq4 (fun b hb=>eR hb) (fun dx=>⟨dx,rfl⟩);have tg_q4:(cn t_S8 q4 (8*(k+1)+3)) q4=8*(k+1)+3:=ck;have tp_S10:(cn t_S8 q4 (8*(k+1)+3)) p=8*(k+1):=(S10.tag p (bU hp_S9)).trans tp_S8;have fr_S10:=S10.fr fr_S9
  generalize u_S10:cn t_S8 q4 (8*(k+1)+3)=t_S10 at *
  clear u_S10;refine⟨_,rfl,_,_,_,_,rfl,hp_S10,T.Innings.cl,T.Innings.ij,Nat.lt_of_le_of_lt (lp (lp (lp (lp (lp (lp (Nat.le_refl 0))))))) (by decide),?_⟩;have S11:Step (fun m=>m=8*(k+1)) H_S10 t_S10 (upd H_S10 p (.ins (a.c 6) dx (aw "figures" (.ref q4) (aw "batters" (.ref q3) (aw "sums" (.ref q2) (aw "ends" (.ref q1) (aw "ended" (.int 0) (aw "over_length" (.int ln) (aw "side" (.int sd) []))))))))) t_S10:=Step.upd hp_S10 tp_S10
  have fr_S11:=S11.fr fr_S10
  generalize e_S11:(upd H_S10 p (.ins (a.c 6) dx (aw "figures" (.ref q4) (aw "batters" (.ref q3) (aw "sums" (.ref q2) (aw "ends" (.ref q1) (aw "ended" (.int 0) (aw "over_length" (.int ln) (aw "side" (.int sd) [])))))))))=H_S11 at *
  have hp_S11:H_S11 p=some (.ins (a.c 6) dx (aw "figures" (.ref q4) (aw "batters" (.ref q3) (aw "sums" (.ref q2) (aw "ends" (.ref q1) (aw "ended" (.int 0) (aw "over_length" (.int ln) (aw "side" (.int sd) [])))))))):=by rw[←e_S11];exact aa
  clear e_S11;refine⟨(by show 0≤sizeLine;decide),fun q5 hq5=>?_⟩;have S12:Step (fun m=>m=8*(k+1)) H_S11 t_S10 (upd H_S11 q5 (.lst [])) (cn t_S10 q5 (8*(k+1)+4)):=Step.new _ hq5;have hp_S12:(upd H_S11 q5 (.lst [])) p=_:=(ax (aQ hp_S11 hq5)).trans hp_S11;have ob_q5:(upd H_S11 q5 (.lst [])) q5=some (.lst []):=aa;have tg_q5:(cn t_S10 q5 (8*(k+1)+4)) q5=8*(k+1)+4:=ck;have tp_S12:(cn t_S10 q5 (8*(k+1)+4)) p=8*(k+1):=(S12.tag p (bU hp_S11)).trans tp_S10;have fr_S12:=S12.fr fr_S11
  generalize e_S12:upd H_S11 q5 (.lst [])=H_S12 at *
  generalize u_S12:cn t_S10 q5 (8*(k+1)+4)=t_S12 at *
  clear e_S12 u_S12;refine⟨_,rfl,_,_,_,_,rfl,hp_S12,T.Innings.cl,T.Innings.dz,Nat.lt_of_le_of_lt (lp (lp (lp (lp (lp (lp (lp (Nat.le_refl 0)))))))) (by decide),?_⟩;have S13:Step (fun m=>m=8*(k+1)) H_S12 t_S12 (upd H_S12 p (.ins (a.c 6) dx (aw "overs" (.ref q5) (aw "figures" (.ref q4) (aw "batters" (.ref q3) (aw "sums" (.ref q2) (aw "ends" (.ref q1) (aw "ended" (.int 0) (aw "over_length" (.int ln) (aw "side" (.int sd) [])))))))))) t_S12:=Step.upd hp_S12 tp_S12
  have fr_S13:=S13.fr fr_S12
  generalize e_S13:(upd H_S12 p (.ins (a.c 6) dx (aw "overs" (.ref q5) (aw "figures" (.ref q4) (aw "batters" (.ref q3) (aw "sums" (.ref q2) (aw "ends" (.ref q1) (aw "ended" (.int 0) (aw "over_length" (.int ln) (aw "side" (.int sd) []))))))))))=H_S13 at *
  have hp_S13:H_S13 p=some (.ins (a.c 6) dx (aw "overs" (.ref q5) (aw "figures" (.ref q4) (aw "batters" (.ref q3) (aw "sums" (.ref q2) (aw "ends" (.ref q1) (aw "ended" (.int 0) (aw "over_length" (.int ln) (aw "side" (.int sd) []))))))))):=by rw[←e_S13];exact aa
  clear e_S13;refine⟨(by show 0≤sizeLine;decide),fun q6 hq6=>?_⟩;have S14:Step (fun m=>m=8*(k+1)) H_S13 t_S12 (upd H_S13 q6 (.lst [])) (cn t_S12 q6 (8*(k+1)+5)):=Step.new _ hq6;have hp_S14:(upd H_S13 q6 (.lst [])) p=_:=(ax (aQ hp_S13 hq6)).trans hp_S13;have ob_q6:(upd H_S13 q6 (.lst [])) q6=some (.lst []):=aa;have tg_q6:(cn t_S12 q6 (8*(k+1)+5)) q6=8*(k+1)+5:=ck;have tp_S14:(cn t_S12 q6 (8*(k+1)+5)) p=8*(k+1):=(S14.tag p (bU hp_S13)).trans tp_S12;have fr_S14:=S14.fr fr_S13
  generalize e_S14:upd H_S13 q6 (.lst [])=H_S14 at *
  generalize u_S14:cn t_S12 q6 (8*(k+1)+5)=t_S14 at *
  clear e_S14 u_S14;refine⟨_,rfl,_,_,_,_,rfl,hp_S14,T.Innings.cl,T.Innings.sh,Nat.lt_of_le_of_lt (lp (lp (lp (lp (lp (lp (lp (lp (Nat.le_refl 0))))))))) (by decide),?_⟩;have S15:Step (fun m=>m=8*(k+1)) H_S14 t_S14 (upd H_S14 p (.ins (a.c 6) dx (aw "told" (.ref q6) (aw "overs" (.ref q5) (aw "figures" (.ref q4) (aw "batters" (.ref q3) (aw "sums" (.ref q2) (aw "ends" (.ref q1) (aw "ended" (.int 0) (aw "over_length" (.int ln) (aw "side" (.int sd) []))))))))))) t_S14:=Step.upd hp_S14 tp_S14
  have fr_S15:=S15.fr fr_S14
  generalize e_S15:(upd H_S14 p (.ins (a.c 6) dx (aw "told" (.ref q6) (aw "overs" (.ref q5) (aw "figures" (.ref q4) (aw "batters" (.ref q3) (aw "sums" (.ref q2) (aw "ends" (.ref q1) (aw "ended" (.int 0) (aw "over_length" (.int ln) (aw "side" (.int sd) [])))))))))))=H_S15 at *
  have hp_S15:H_S15 p=some (.ins (a.c 6) dx (aw "told" (.ref q6) (aw "overs" (.ref q5) (aw "figures" (.ref q4) (aw "batters" (.ref q3) (aw "sums" (.ref q2) (aw "ends" (.ref q1) (aw "ended" (.int 0) (aw "over_length" (.int ln) (aw "side" (.int sd) [])))))))))):=by rw[←e_S15];exact aa
  clear e_S15;refine⟨(by show 0≤sizeLine;decide),fun q7 hq7=>?_⟩;have S16:Step (fun m=>m=8*(k+1)) H_S15 t_S14 (upd H_S15 q7 (.lst [])) (cn t_S14 q7 (8*(k+1)+6)):=Step.new _ hq7;have hp_S16:(upd H_S15 q7 (.lst [])) p=_:=(ax (aQ hp_S15 hq7)).trans hp_S15;have ob_q7:(upd H_S15 q7 (.lst [])) q7=some (.lst []):=aa;have tg_q7:(cn t_S14 q7 (8*(k+1)+6)) q7=8*(k+1)+6:=ck;have tp_S16:(cn t_S14 q7 (8*(k+1)+6)) p=8*(k+1):=(S16.tag p (bU hp_S15)).trans tp_S14;have fr_S16:=S16.fr fr_S15
  generalize e_S16:upd H_S15 q7 (.lst [])=H_S16 at *
  generalize u_S16:cn t_S14 q7 (8*(k+1)+6)=t_S16 at *
  clear e_S16 u_S16;refine⟨_,rfl,_,_,_,_,rfl,hp_S16,T.Innings.cl,T.Innings.rn,Nat.lt_of_le_of_lt (lp (lp (lp (lp (lp (lp (lp (lp (lp (Nat.le_refl 0)))))))))) (by decide),?_⟩;have S17:Step (fun m=>m=8*(k+1)) H_S16 t_S16 (upd H_S16 p (.ins (a.c 6) dx (aw "falls" (.ref q7) (aw "told" (.ref q6) (aw "overs" (.ref q5) (aw "figures" (.ref q4) (aw "batters" (.ref q3) (aw "sums" (.ref q2) (aw "ends" (.ref q1) (aw "ended" (.int 0) (aw "over_length" (.int ln) (aw "side" (.int sd) [])))))))))))) t_S16:=Step.upd hp_S16 tp_S16
  have fr_S17:=S17.fr fr_S16
  generalize e_S17:(upd H_S16 p (.ins (a.c 6) dx (aw "falls" (.ref q7) (aw "told" (.ref q6) (aw "overs" (.ref q5) (aw "figures" (.ref q4) (aw "batters" (.ref q3) (aw "sums" (.ref q2) (aw "ends" (.ref q1) (aw "ended" (.int 0) (aw "over_length" (.int ln) (aw "side" (.int sd) []))))))))))))=H_S17 at *
  have hp_S17:H_S17 p=some (.ins (a.c 6) dx (aw "falls" (.ref q7) (aw "told" (.ref q6) (aw "overs" (.ref q5) (aw "figures" (.ref q4) (aw "batters" (.ref q3) (aw "sums" (.ref q2) (aw "ends" (.ref q1) (aw "ended" (.int 0) (aw "over_length" (.int ln) (aw "side" (.int sd) []))))))))))):=by rw[←e_S17];exact aa
  clear e_S17;refine⟨_,rfl,_,rfl,fun q8 dq8 hq8 hdq8 _=>⟨q8,dq8,st,ot,0,0,rfl,aa,rfl,?_⟩⟩;have sm_q8:a6 H_S17 _:=cJ (C:=(a.c 4)) (fs:=[]) (gs:=(fK ⟨st,ot,0,0⟩)) hq8 hdq8;have S18:Step (fun m=>m=8*(k+1)) H_S17 t_S16 (upd (upd (upd H_S17 dq8 (.own q8)) q8 (.ins (a.c 4) dq8 [])) q8 (.ins (a.c 4) dq8 (fK ⟨st,ot,0,0⟩))) t_S16:=Step.same sm_q8;have hp_S18:=sm_q8 _ _ hp_S17;have ob_q8:(upd (upd (upd H_S17 dq8 (.own q8)) q8 (.ins (a.c 4) dq8 [])) q8 (.ins (a.c 4) dq8 (fK ⟨st,ot,0,0⟩))) q8=some (.ins (a.c 4) dq8 (fK ⟨st,ot,0,0⟩)):=aa;have tg_q8:t_S16 q8=0:=fr_S17 _ hq8;have fr_S18:=S18.fr fr_S17
  generalize e_S18:(upd (upd (upd H_S17 dq8 (.own q8)) q8 (.ins (a.c 4) dq8 [])) q8 (.ins (a.c 4) dq8 (fK ⟨st,ot,0,0⟩)))=H_S18 at *
  clear e_S18;refine⟨(by show 1≤sizeLine;decide),fun q9 hq9=>?_⟩;have S19:Step (fun m=>m=8*(k+1)) H_S18 t_S16 (upd H_S18 q9 (.lst [.ref q8])) (cn t_S16 q9 (8*(k+1)+7)):=Step.new _ hq9;have hp_S19:(upd H_S18 q9 (.lst [.ref q8])) p=_:=(ax (aQ hp_S18 hq9)).trans hp_S18;have ob_q9:(upd H_S18 q9 (.lst [.ref q8])) q9=some (.lst [.ref q8]):=aa;have tg_q9:(cn t_S16 q9 (8*(k+1)+7)) q9=8*(k+1)+7:=ck;have tp_S19:(cn t_S16 q9 (8*(k+1)+7)) p=8*(k+1):=(S19.tag p (bU hp_S18)).trans tp_S16;have fr_S19:=S19.fr fr_S18
  generalize e_S19:upd H_S18 q9 (.lst [.ref q8])=H_S19 at *
  generalize u_S19:cn t_S16 q9 (8*(k+1)+7)=t_S19 at *
  clear e_S19 u_S19;refine⟨_,rfl,_,_,_,_,rfl,hp_S19,T.Innings.cl,T.Innings.jX,Nat.lt_of_le_of_lt (lp (lp (lp (lp (lp (lp (lp (lp (lp (lp (Nat.le_refl 0))))))))))) (by decide),?_⟩;have S20:Step (fun m=>m=8*(k+1)) H_S19 t_S19 (upd H_S19 p (.ins (a.c 6) dx (aw "stands" (.ref q9) (aw "falls" (.ref q7) (aw "told" (.ref q6) (aw "overs" (.ref q5) (aw "figures" (.ref q4) (aw "batters" (.ref q3) (aw "sums" (.ref q2) (aw "ends" (.ref q1) (aw "ended" (.int 0) (aw "over_length" (.int ln) (aw "side" (.int sd) []))))))))))))) t_S19:=Step.upd hp_S19 tp_S19
  have fr_S20:=S20.fr fr_S19
  generalize e_S20:(upd H_S19 p (.ins (a.c 6) dx (aw "stands" (.ref q9) (aw "falls" (.ref q7) (aw "told" (.ref q6) (aw "overs" (.ref q5) (aw "figures" (.ref q4) (aw "batters" (.ref q3) (aw "sums" (.ref q2) (aw "ends" (.ref q1) (aw "ended" (.int 0) (aw "over_length" (.int ln) (aw "side" (.int sd) [])))))))))))))=H_S20 at *
  have hp_S20:H_S20 p=some (.ins (a.c 6) dx (aw "stands" (.ref q9) (aw "falls" (.ref q7) (aw "told" (.ref q6) (aw "overs" (.ref q5) (aw "figures" (.ref q4) (aw "batters" (.ref q3) (aw "sums" (.ref q2) (aw "ends" (.ref q1) (aw "ended" (.int 0) (aw "over_length" (.int ln) (aw "side" (.int sd) [])))))))))))):=by rw[←e_S20];exact aa
  clear e_S20;have Z20:Step (fun m=>m=8*(k+1)) H_S20 t_S19 H_S20 t_S19:=Step.refl;have Z19:=S20.trans Z20;have Z18:=S19.trans Z19;have Z17:=S18.trans Z18;have Z16:=S17.trans Z17;have Z15:=S16.trans Z16;have Z14:=S15.trans Z15;have Z13:=S14.trans Z14;have Z12:=S13.trans Z13;have Z11:=S12.trans Z12;have Z10:=S11.trans Z11;have Z9:=S10.trans Z10;have Z8:=S9.trans Z9;have Z7:=S8.trans Z8;have Z6:=S7.trans Z7;have Z5:=S6.trans Z6;have Z4:=S5.trans Z5;have Z3:=S4.trans Z4;have Z2:=S3.trans Z3;have Z1:=S2.trans Z2;have Z0:=S1.trans Z1;have n0:¬(0=8*(k+1)):=by omega
  have F0:(aw "stands" (.ref q9) (aw "falls" (.ref q7) (aw "told" (.ref q6) (aw "overs" (.ref q5) (aw "figures" (.ref q4) (aw "batters" (.ref q3) (aw "sums" (.ref q2) (aw "ends" (.ref q1) (aw "ended" (.int 0) (aw "over_length" (.int ln) (aw "side" (.int sd) [])))))))))))=aC ⟨p,dx,q1,q2,q3,q4,q5,q6,q7,q9,ps_q3,ps_q4,[],[],[q8]⟩ (N.ak.fresh sd ln st ot):=by kernel_rfl
  rw[F0]at hp_S20;have I:bf a H_S20 t_S19 k ⟨p,dx,q1,q2,q3,q4,q5,q6,q7,q9,ps_q3,ps_q4,[],[],[q8]⟩ (N.ak.fresh sd ln st ot):=by
   refine⟨hp_S20,tp_S19,(Z4.keep _ _ ob_q1 (by rw[tg_q1];omega)),((Z4.tag _ (bU ob_q1)).trans tg_q1),⟨_,(Z6.ei n0 ob_q2 tg_q2).1,_,rfl⟩,(Z6.ei n0 ob_q2 tg_q2).2,(ob_q3.step Z8 n0 ((Z8.keep _ _ ob_q3.lst (by rw[tg_q3];omega)).trans ob_q3.lst.symm)),((Z8.tag _ (bU ob_q3.lst)).trans tg_q3),(ob_q4.step Z10 n0 ((Z10.keep _ _ ob_q4.lst (by rw[tg_q4];omega)).trans ob_q4.lst.symm)),((Z10.tag _ (bU ob_q4.lst)).trans tg_q4),⟨(Z12.keep _ _ ob_q5 (by rw[tg_q5];omega)),rfl,fun j p x hp=>by simp at hp⟩,((Z12.tag _ (bU ob_q5)).trans tg_q5),(Z14.keep _ _ ob_q6 (by rw[tg_q6];omega)),((Z14.tag _ (bU ob_q6)).trans tg_q6),⟨(Z16.keep _ _ ob_q7 (by rw[tg_q7];omega)),rfl,fun j p x hp=>by simp at hp⟩,((Z16.tag _ (bU ob_q7)).trans tg_q7),⟨(Z19.keep _ _ ob_q9 (by rw[tg_q9];omega)),rfl,fun j p x hp hx=>?_⟩,((Z19.tag _ (bU ob_q9)).trans tg_q9)⟩
   cases j with
   |zero=>
    cases hp;cases hx;exact⟨(Z18.ei n0 ob_q8 tg_q8).2,_,(Z18.ei n0 ob_q8 tg_q8).1,_,rfl⟩
   |succ j=>simp at hp
  have fw:HY (N.ak.fresh sd ln st ot):=⟨by show 0<1000000;decide,by show 0<1000000;decide,by show 0<1000000;decide,by show 1<1000000;decide,by show(List.replicate 11 _).length=11;simp,by show(List.replicate 11 _).length=11;simp⟩
  have g1:(N.ak.fresh sd ln st ot).bats[st]?=some Sh11.freshBat:=by show(List.replicate 11 Sh11.freshBat)[st]?=_;rw[List.getElem?_replicate,if_pos (by omega)]
  refine⟨_,rfl,_,_,_,rfl,I.ob,d4,_,rfl,_,k,⟨p,dx,q1,q2,q3,q4,q5,q6,q7,q9,ps_q3,ps_q4,[],[],[q8]⟩,_,_,st,rfl,I,fr_S20,fw,g1,fun H1 t1 A1 eA1 st1 I1=>?_⟩;have hl2:(N.ak.bG st (N.ak.fresh sd ln st ot)).bats.length=11:=List.length_modify ..;obtain⟨x2,g2⟩:∃ x2,(N.ak.bG st (N.ak.fresh sd ln st ot)).bats[ot]?=some x2:=⟨_,List.getElem?_eq_getElem (by rw[hl2];omega)⟩
  have fw2:HY (N.ak.bG st (N.ak.fresh sd ln st ot)):=⟨by show 0<1000000;decide,by show 0<1000000;decide,by show 0<1000000;decide,by show 1<1000000;decide,hl2,by show(List.replicate 11 _).length=11;simp⟩
  have eA1':A1.p=p:=eA1;have fr1:=st1.fr fr_S20;refine⟨_,rfl,?_⟩;rw[←eA1'];refine⟨_,_,_,rfl,I1.ob,d4,_,rfl,t1,k,A1,_,x2,ot,rfl,I1,fr1,fw2,g2,fun H2 t2 A2 eA2 st2 I2=>?_⟩;have all:=(Z0.mono fun m h=>(⟨by omega,by omega⟩:inR k m)).trans (st1.trans st2);refine k0 H2 t2 A2 (eA2.trans eA1') I2 (fun b u h hb hr=>?_) (fun b h hb=>?_) all.live (st2.fr fr1)
  ·exact all.keep b u h (by rw[eR hb];exact hr)
  ·rw[all.tag b h,eR hb]
end
end Sb
namespace Sb
open PySem L2
structure bE where
 p:Addr
 dx:Addr
 played:Addr
 owed:Addr
 As:List cO
noncomputable def bA(G:bE)(g:aq.ab):List (Str×V):=[("innings_each",.int g.rules.sides),("overs_limit",.int g.rules.overs),("over_length",.int g.rules.balls),("bowler_limit",.int g.rules.most),("follow_lead",.int g.rules.follow),("played",.ref G.played),("owed",.ref G.owed),("followed_on",.bl g.followed),("time_is_up",.bl g.up)]
section
variable{G:bE}{g:aq.ab}
theorem oI:(bA G g).lookup ("innings_each":Str)=some (.int g.rules.sides):=by kernel_rfl
theorem bJ:(bA G g).lookup ("overs_limit":Str)=some (.int g.rules.overs):=by kernel_rfl
theorem yR:(bA G g).lookup ("over_length":Str)=some (.int g.rules.balls):=by kernel_rfl
theorem oM:(bA G g).lookup ("bowler_limit":Str)=some (.int g.rules.most):=by kernel_rfl
theorem pO:(bA G g).lookup ("follow_lead":Str)=some (.int g.rules.follow):=by kernel_rfl
theorem aV:(bA G g).lookup ("played":Str)=some (.ref G.played):=by kernel_rfl
theorem qV:(bA G g).lookup ("owed":Str)=some (.ref G.owed):=by kernel_rfl
theorem kM:(bA G g).lookup ("followed_on":Str)=some (.bl g.followed):=by kernel_rfl
theorem iR:(bA G g).lookup ("time_is_up":Str)=some (.bl g.up):=by kernel_rfl
theorem aO:(bA G g).lookup ("current":Str)=none:=by kernel_rfl
theorem fQ:(bA G g).lookup ("innings_of":Str)=none:=by kernel_rfl
theorem qZ:(bA G g).lookup ("runs_of":Str)=none:=by kernel_rfl
theorem iI:(bA G g).lookup ("lead_of":Str)=none:=by kernel_rfl
theorem i9:(bA G g).lookup ("all_opened":Str)=none:=by kernel_rfl
theorem iM:(bA G g).lookup ("is_over":Str)=none:=by kernel_rfl
theorem mr:(bA G g).lookup ("is_won_by_an_innings":Str)=none:=by kernel_rfl
theorem zX:(bA G g).lookup ("outcome":Str)=none:=by kernel_rfl
theorem xY:(bA G g).lookup ("next_side":Str)=none:=by kernel_rfl
theorem sP:(bA G g).lookup ("start_innings":Str)=none:=by kernel_rfl
theorem cB:(bA G g).lookup ("look_for_end":Str)=none:=by kernel_rfl
theorem yN:(bA G g).lookup ("may_bowl":Str)=none:=by kernel_rfl
theorem z8:(bA G g).lookup ("deliver":Str)=none:=by kernel_rfl
theorem AH:(bA G g).lookup ("retire":Str)=none:=by kernel_rfl
theorem vB:(bA G g).lookup ("add_penalty":Str)=none:=by kernel_rfl
theorem lW:(bA G g).lookup ("way_to_close":Str)=none:=by kernel_rfl
theorem Cw:(bA G g).lookup ("close":Str)=none:=by kernel_rfl
theorem sR:(bA G g).lookup ("may_follow_on":Str)=none:=by kernel_rfl
theorem yc:(bA G g).lookup ("follow_on":Str)=none:=by kernel_rfl
theorem ui:(bA G g).lookup ("may_be_drawn":Str)=none:=by kernel_rfl
theorem vJ:(bA G g).lookup ("end_by_time":Str)=none:=by kernel_rfl
theorem yQ:(bA G g).lookup ("snapshot":Str)=none:=by kernel_rfl
theorem Ai:(bA G g).lookup ("restore":Str)=none:=by kernel_rfl
theorem kn:(bA G g).length<1000:=by show 9<1000;decide
theorem Af(b:Bool):aw "followed_on" (.bl b) (bA G g)=bA G { g with followed:=b }:=by kernel_rfl
theorem Kv(b:Bool):aw "time_is_up" (.bl b) (bA G g)=bA G { g with up:=b }:=by kernel_rfl
theorem Ke(q:Addr)(As:List cO)(ps:List aq.ak):aw "played" (.ref q) (bA G g)=bA { G with played:=q,As:=As } { g with played:=ps }:=by kernel_rfl
theorem Om(q:Addr)(x:Nat×Nat):aw "owed" (.ref q) (bA G g)=bA { G with owed:=q } { g with owed:=x }:=by kernel_rfl
end
structure aL(a:Ad)(H:Hp)(t:Tag)(G:bE)(g:aq.ab):Prop where
 ob:H G.p=some (.ins (a.c 7) G.dx (bA G g))
 nG:t G.p=4
 played:H G.played=some (.lst ((G.As.map (·.p)).map V.ref))
 Nc:t G.played=5
 owed:H G.owed=some (.lst [.int g.owed.1,.int g.owed.2])
 M5:t G.owed=6
 len:G.As.length=g.played.length
 iT:∀(k:Nat)(A:cO)(i:aq.ak),G.As[k]?=some A→g.played[k]?=some i→bf a H t k A (N.proj i)
def gR(n:Nat):Prop:=4≤n
def Ext(G G':bE):Prop:=∀(j:Nat)(A:cO),G.As[j]?=some A→∃ A',G'.As[j]?=some A'∧A'.p=A.p
theorem Ext.refl(G:bE):Ext G G:=fun _ A h=>⟨A,h,rfl⟩
theorem Ext.trans{G G1 G2:bE}(x:Ext G G1)(y:Ext G1 G2):Ext G G2:=fun j A h=>by
 obtain⟨A1,h1,e1⟩:=x j A h;obtain⟨A2,h2,e2⟩:=y j A1 h1;exact⟨A2,h2,e2.trans e1⟩
def tD(a:Ad)(H:Hp)(t:Tag)(G:bE)(g':aq.ab)(R:Hp→Prop):Prop:=∀ H' t' G',G'.p=G.p→Step gR H t H' t'→Ext G G'→aL a H' t' G' g'→R H'
section
variable{a:Ad}{H H':Hp}{t t':Tag}{G:bE}{g:aq.ab}
theorem tD.go{g':aq.ab}{R:Hp→Prop}{G':bE}(h:tD a H t G g' R)(I:aL a H' t' G' g')(s:Step gR H t H' t')(x:Ext G G')(e:G'.p=G.p):R H':=h H' t' G' e s x I
theorem xl:¬gR 0:=fun h=>by unfold gR at h;omega
theorem OR{k m:Nat}(h:inR k m):gR m:=by unfold inR at h;unfold gR;omega
theorem aL.step{R:Nat→Prop}(I:aL a H t G g)(s:Step R H t H' t')(h0:¬R 0)(hk:∀ m,gR m→¬R m):aL a H' t' G g:=by
 have kp:∀{b:Addr}{o:HO}{j:Nat},H b=some o→t b=j→4≤j→H' b=some o∧t' b=j:=fun{b o j} h ht hj=>⟨s.keep b o h (by rw[ht];exact hk _ hj),(s.tag b (bU h)).trans ht⟩
 have k1:=kp I.ob I.nG (by omega);have k2:=kp I.played I.Nc (by omega);have k3:=kp I.owed I.M5 (by omega);exact⟨k1.1,k1.2,k2.1,k2.2,k3.1,k3.2,I.len,fun k A i hA hi=>(I.iT k A i hA hi).step s h0 fun m hm=>hk m (OR hm)⟩
theorem aL.same(I:aL a H t G g)(s:a6 H H'):aL a H' t G g:=I.step (R:=fun _=>False) (Step.same s) (fun h=>h) (fun _ _ h=>h)
theorem aL.Ny(I:aL a H t G g){ps:List aq.ak}{i:aq.ak}(e:g.played=ps++[i]):∃ As A,G.As=As++[A]∧As.length=ps.length∧bf a H t ps.length A (N.proj i)∧IA ((G.As.map (·.p)).map V.ref) (-1)=some (V.ref A.p):=by
 have hl:=I.len;rw[e]at hl;rcases aq.a8 G.As with z|⟨As,A,z⟩
 ·rw[z]at hl;simp at hl
 ·have e2:As.length=ps.length:=by rw[z]at hl;simpa using hl
  refine⟨As,A,z,e2,I.iT _ A i (by rw[z,←e2];simp) (by rw[e];simp),?_⟩;rw[z,List.map_append,List.map_append];exact Ak _ _
theorem aL.KU(I:aL a H t G g){k:Nat}{i:aq.ak}(h:g.played[k]?=some i):∃ A,G.As[k]?=some A∧bf a H t k A (N.proj i)∧IA ((G.As.map (·.p)).map V.ref) (k:Int)=some (V.ref A.p):=by
 have hk:k<G.As.length:=by rw[I.len];exact (List.getElem?_eq_some_iff.mp h).1
 refine⟨G.As[k],List.getElem?_eq_getElem hk,I.iT k _ i (List.getElem?_eq_getElem hk) h,ar ?_⟩;rw[List.getElem?_map,List.getElem?_map,List.getElem?_eq_getElem hk];rfl
theorem aL.QH(I:aL a H t G g){k:Nat}{A A':cO}{i':aq.ak}(hA:G.As[k]?=some A)(s:Step (inR k) H t H' t')(e:A'.p=A.p)(J:bf a H' t' k A' (N.proj i')) :
  aL a H' t' { G with As:=G.As.set k A' } { g with played:=g.played.set k i' }∧Step gR H t H' t'∧Ext G { G with As:=G.As.set k A' }:=by
 have kp:∀{b:Addr}{o:HO}{j:Nat},H b=some o→t b=j→j<8→H' b=some o∧t' b=j:=fun{b o j} h ht hj=>⟨s.keep b o h (by rw[ht];unfold inR;omega),(s.tag b (bU h)).trans ht⟩
 have k1:=kp I.ob I.nG (by omega);have k2:=kp I.played I.Nc (by omega);have k3:=kp I.owed I.M5 (by omega);have hk:k<G.As.length:=(List.getElem?_eq_some_iff.mp hA).1;have em:(G.As.set k A').map (·.p)=G.As.map (·.p):=by
  rw[List.map_set];apply List.ext_getElem?;intro j;by_cases ej:j=k
  ·subst ej;rw[List.getElem?_set_self (by simpa using hk),List.getElem?_map,hA,e];rfl
  ·rw[List.getElem?_set_ne (Ne.symm ej)]
 refine⟨⟨k1.1,k1.2,?_,k2.2,k3.1,k3.2,?_,?_⟩,s.mono fun m h=>OR h,?_⟩
 ·show H' G.played=some (.lst (((G.As.set k A').map (·.p)).map V.ref));rw[em];exact k2.1
 ·show(G.As.set k A').length=(g.played.set k i').length;rw[List.length_set,List.length_set];exact I.len
 ·intro j B x hB hx;by_cases ej:j=k
  ·subst ej;have hB':(G.As.set j A')[j]?=some B:=hB;have hx':(g.played.set j i')[j]?=some x:=hx;rw[List.getElem?_set_self hk]at hB';rw[List.getElem?_set_self (by rw[←I.len];exact hk)]at hx'
   cases hB'
   cases hx'
   exact J
  ·have hB':(G.As.set k A')[j]?=some B:=hB;have hx':(g.played.set k i')[j]?=some x:=hx;rw[List.getElem?_set_ne (Ne.symm ej)]at hB' hx';exact (I.iT j B x hB' hx').step s sx fun m hm hm'=>by unfold inR at hm hm';omega
 ·intro j B hB;by_cases ej:j=k
  ·subst ej;rw[hA]at hB;cases hB;exact⟨A',by show(G.As.set j A')[j]?=_;rw[List.getElem?_set_self hk],e⟩
  ·exact⟨B,by show(G.As.set k A')[j]?=_;rw[List.getElem?_set_ne (Ne.symm ej)];exact hB,rfl⟩
theorem Jp{α:Type}(ps:List α)(i j:α):(ps++[i]).set ps.length j=ps++[j]:=by simp
theorem aL.Bt(I:aL a H t G g){ps:List aq.ak}{i i':aq.ak}{As:List cO}{A A':cO}(e:g.played=ps++[i])(eA:G.As=As++[A])(el:As.length=ps.length)(s:Step (inR ps.length) H t H' t')(ep:A'.p=A.p)(J:bf a H' t' ps.length A' (N.proj i')) :
  aL a H' t' { G with As:=As++[A'] } { g with played:=ps++[i'] }∧Step gR H t H' t'∧Ext G { G with As:=As++[A'] }:=by
 have h:=I.QH (k:=ps.length) (by rw[eA,←el];simp) s ep J;rw[e,eA,Jp]at h;have e2:(As++[A]).set ps.length A'=As++[A']:=by rw[←el];exact Jp As A A'
 rw[e2]at h;exact h
theorem aL.fld(I:aL a H t G g){g':aq.ab}(hp:g'.played=g.played)(ho:g'.owed=g.owed):aL a (upd H G.p (.ins (a.c 7) G.dx (bA G g'))) t G g'∧Step gR H t (upd H G.p (.ins (a.c 7) G.dx (bA G g'))) t:=by
 have s:Step (fun m=>m=4) H t (upd H G.p (.ins (a.c 7) G.dx (bA G g'))) t:=Step.upd I.ob I.nG;refine⟨⟨aa,I.nG,s.keep _ _ I.played (by rw[I.Nc];decide),I.Nc,?_,I.M5,by rw[hp];exact I.len,fun k A i hA hi=>?_⟩,s.mono fun m h=>by unfold gR;omega⟩
 ·rw[ho];exact s.keep _ _ I.owed (by rw[I.M5];decide)
 ·rw[hp]at hi;exact (I.iT k A i hA hi).step s (by decide) fun m hm h=>by unfold inR at hm;omega
theorem aL.eQ(I:aL a H t G g)(x y:Nat):aL a (upd H G.owed (.lst [.int x,.int y])) t G { g with owed:=(x,y) }∧Step gR H t (upd H G.owed (.lst [.int x,.int y])) t:=by
 have s:Step (fun m=>m=6) H t (upd H G.owed (.lst [.int x,.int y])) t:=Step.upd I.owed I.M5;exact⟨⟨s.keep _ _ I.ob (by rw[I.nG];decide),I.nG,s.keep _ _ I.played (by rw[I.Nc];decide),I.Nc,aa,I.M5,I.len,fun k A i hA hi=>(I.iT k A i hA hi).step s (by decide) fun m hm h=>by unfold inR at hm;omega⟩,s.mono fun m h=>by unfold gR;omega⟩
theorem aL.push(I:aL a H t G g){A:cO}{i:aq.ak}(J:bf a H t g.played.length A (N.proj i)) :
  aL a (upd H G.played (.lst ((G.As.map (·.p)).map V.ref++[.ref A.p]))) t { G with As:=G.As++[A] } { g with played:=g.played++[i] }∧Step gR H t (upd H G.played (.lst ((G.As.map (·.p)).map V.ref++[.ref A.p]))) t∧Ext G { G with As:=G.As++[A] }:=by
 have s:Step (fun m=>m=5) H t (upd H G.played (.lst ((G.As.map (·.p)).map V.ref++[.ref A.p]))) t:=Step.upd I.played I.Nc;have sI:∀{k:Nat}{B:cO}{n:N.ak},bf a H t k B n→bf a (upd H G.played (.lst ((G.As.map (·.p)).map V.ref++[.ref A.p]))) t k B n:=fun J=>J.step s (by decide) fun m hm h=>by unfold inR at hm;omega
 refine⟨⟨s.keep _ _ I.ob (by rw[I.nG];decide),I.nG,?_,I.Nc,s.keep _ _ I.owed (by rw[I.M5];decide),I.M5,by simp[I.len],fun k B x hB hx=>?_⟩,s.mono fun m h=>by unfold gR;omega,fun j B hB=>⟨B,?_,rfl⟩⟩
 ·rw[aa];simp
 ·by_cases hk:k<G.As.length
  ·have hB':(G.As++[A])[k]?=some B:=hB;have hx':(g.played++[i])[k]?=some x:=hx;rw[List.getElem?_append_left hk]at hB';rw[List.getElem?_append_left (by rw[←I.len];exact hk)]at hx';exact sI (I.iT k B x hB' hx')
  ·have hk2:k=G.As.length:=by
    have:=(List.getElem?_eq_some_iff.mp hB).1;simp at this;omega
   subst hk2;have e1:A=B:=by
    have hB':(G.As++[A])[G.As.length]?=some B:=hB
    simpa using hB'
   have e2:i=x:=by
    have hx':(g.played++[i])[G.As.length]?=some x:=hx;rw[I.len]at hx'
    simpa using hx'
   subst e1 e2;rw[I.len];exact sI J
 ·show(G.As++[A])[j]?=some B;rw[List.getElem?_append_left (List.getElem?_eq_some_iff.mp hB).1];exact hB
end
end Sb
namespace Sb
open PySem L2
section
variable{P:Program}{w:World}{K:PySem.W.Frag}{mg:Str→Option Value}{base:Heap}{a:Ad}
structure Gd(g:aq.ab):Prop where
 ok:∀ i∈g.played,i.Ok
 ex:∀ i∈g.played,N.Ex i
 AE:∀ i∈g.played,HY (N.proj i)
 more:∀ i∈g.played,(N.proj i).stands.length+1<1000000∧(N.proj i).told.length+1<1000000∧(N.proj i).falls.length+1<1000000
 side:∀ i∈g.played,i.side≤1
 len:g.played.length≤4
noncomputable def sel(s:Nat)(As:List cO)(pl:List aq.ak):List (cO×aq.ak):=(As.zip pl).filter fun q=>decide (q.2.side=s)
theorem Hw(s:Nat):∀{As:List cO}{pl:List aq.ak},As.length=pl.length→(sel s As pl).map (·.2)=pl.filter fun i=>i.side==s
 |[],[],_=>rfl
 |[],_::_,h=>by simp at h
 |_::_,[],h=>by simp at h
 |A::As,i::pl,h=>by
  have ih:=Hw s (As:=As) (pl:=pl) (by simpa using h);unfold sel at ih ⊢;rw[List.zip_cons_cons,List.filter_cons,List.filter_cons];by_cases e:i.side=s
  ·simp[e,ih]
  ·simp[e,ih]
theorem Ip{s:Nat}{As:List cO}{pl:List aq.ak}{q:cO×aq.ak}(h:q∈sel s As pl):∃ k:Nat,As[k]?=some q.1∧pl[k]?=some q.2∧q.2.side=s:=by
 unfold sel at h;rw[List.mem_filter]at h;obtain⟨k,hk⟩:=List.mem_iff_getElem?.mp h.1;rw[List.getElem?_zip_eq_some]at hk;exact⟨k,hk.1,hk.2,of_decide_eq_true h.2⟩
theorem Of(s:Nat):∀{As:List cO}{pl:List aq.ak},As.length=pl.length→(List.zipWith (fun p (i:aq.ak)=>if decide (i.side=s)=true then some (V.ref p)else none) (As.map (·.p)) pl).filterMap id=((sel s As pl).map (·.1.p)).map V.ref
 |[],[],_=>rfl
 |[],_::_,h=>by simp at h
 |_::_,[],h=>by simp at h
 |A::As,i::pl,h=>by
  have ih:=Of s (As:=As) (pl:=pl) (by simpa using h);unfold sel at ih ⊢;rw[List.map_cons,List.zipWith_cons_cons,List.zip_cons_cons,List.filter_cons];by_cases e:i.side=s
  ·rw[if_pos (decide_eq_true e),if_pos (decide_eq_true e),List.filterMap_cons,ih];rfl
  ·rw[if_neg (by simp[e]),if_neg (by simp[e]),List.filterMap_cons,ih];rfl
inductive EA(a:Ad)(vs:List V)(H:Hp)(Q:VK):Prop
 |mk(t:Tag)(G:bE)(g:aq.ab)(_:vs=[.ref G.p])(_:aL a H t G g)(_:(g.current=none→Q .non H))(_:(∀ i ps As A,g.current=some i→g.played=ps++[i]→G.As=As++[A]→As.length=ps.length→bf a H t ps.length A (N.proj i)→Q (.ref A.p) H))
def CS(a:Ad):Sp:=fun vs H Q _=>EA a vs H Q
theorem Di:ao ["self"] ["self"] (ai qu):=⟨rfl,rfl,rfl,by decide +kernel,rfl,by decide +kernel,by decide +kernel⟩
theorem bj(T:Txt K mg a):aZ P w K mg base cG 1 (a.f 68) (a.d 68) ["self"] (CS a):=by
 refine T.ab.bp.F.ok Di (fun vs H Q E h=>?_) (fun cdv A outer s H vs Q E hr h=>?_)
 ·obtain⟨t,G,g,rfl,_⟩:=h;rfl
 ·obtain⟨t,G,g,rfl,I,k0,k1⟩:=h;refine⟨_,(ae (bN (PW.pt (uU (aT (kT (ba aP rfl T.fn.c8 PySem.boot_len (aK (af (pv 0) rfl) ah)) aj)) (oV (aT (bx (af (aM aD (af (pv 0) rfl) (ly g5 aj) (fun _ _=>rfl)) rfl) (aN rfl T.fn.pq)))))) (ag (ay (aM aD (af (pv 0) rfl) (ly g5 aj) (fun _ _=>rfl)))) aY) (ag (ay Kb))),?_⟩;have hlen:((G.As.map (·.p)).map V.ref).length=g.played.length:=by rw[List.length_map,List.length_map,I.len]
  refine⟨_,rfl,_,_,_,_,_,rfl,I.ob,T.ab.cl,T.ab.bF,aV,_,_,rfl,.inl (bD.of I.played),_,_,rfl,rfl,_,rfl,?_⟩;rw[hlen];rcases aq.a8 g.played with e|⟨ps,i,e⟩
  ·have hc:g.current=none:=by unfold aq.ab.current;rw[e];rfl
   exact cw (by rw[e];rfl) (lZ (k0 hc))
  ·obtain⟨As,A,eA,el,J,hat⟩:=I.Ny e;have hc:=aq.ab.kl e;refine bH (decide_eq_true (by rw[e];simp)) ⟨_,rfl,_,_,_,_,_,rfl,I.ob,T.ab.cl,T.ab.bF,aV,_,rfl,_,_,_,_,rfl,rfl,bD.of I.played,hat,_,_,_,_,_,rfl,J.ob,T.Innings.cl,T.Innings.gm,nV,_,_,rfl,rfl,_,rfl,?_⟩;refine eM (fun h=>?_) (fun h=>?_)
   ·have h0:i.ended=0:=by have:=iA h;exact (by omega:((N.proj i).ended:Nat)=0)
    rw[if_pos h0]at hc;exact⟨_,rfl,_,_,_,_,_,rfl,I.ob,T.ab.cl,T.ab.bF,aV,_,rfl,_,_,_,_,rfl,rfl,bD.of I.played,hat,k1 i ps As A hc e eA el J⟩
   ·have h0:i.ended≠0:=fun z=>h (decide_eq_true (by show((i.ended:Nat):Int)=0;rw[z];rfl))
    rw[if_neg h0]at hc;exact k0 hc
inductive z7(a:Ad)(vs:List V)(H:Hp)(Q:VK):Prop
 |mk(t:Tag)(G:bE)(g:aq.ab)(s:Nat)(_:vs=[.ref G.p,.int s])(_:aL a H t G g)(_:g.played.length≤4)(_:∀ D,H D=none→Q (.ref D) (upd H D (.lst (((sel s G.As g.played).map (·.1.p)).map V.ref))))
def yP(a:Ad):Sp:=fun vs H Q _=>z7 a vs H Q
theorem kA:ao ["self","side","innings"] ["self","side"] (ai lO):=⟨rfl,rfl,rfl,by decide +kernel,rfl,by decide +kernel,by decide +kernel⟩
theorem gN(T:Txt K mg a):aZ P w K mg base cG 1 (a.f 69) (a.d 69) ["self","side"] (yP a):=by
 refine T.ab.f7.F.ok kA (fun vs H Q E h=>?_) (fun cdv A outer s H vs Q E hr h=>?_)
 ·obtain⟨t,G,g,sd,rfl,_⟩:=h;rfl
 ·obtain⟨t,G,g,sd,rfl,I,h4,k0⟩:=h;refine⟨_,(ag (ay (B3 rfl kA.nd (uV (af (pv 0) rfl)) (lL (own:=[("innings",2)]) (by kernel_rfl)) (fun _ _ _ _ _=>mY (i:=2) kA.nd rfl (Or.inl rfl)) (fun _ _ _ _ _=>by exact (HK (aT (bx (zp (K:=K) rfl (pv 2) rfl) (pv 1))))) (fun _ _ _ _ _=>by exact (pv 2))))),?_⟩
  refine⟨_,rfl,_,_,_,_,_,rfl,I.ob,T.ab.cl,T.ab.bF,aV,_,rfl,⟨_,bD.of I.played⟩,fun D hD=>zI (K:=K) (List.zipWith (fun p (i:aq.ak)=>if decide (i.side=sd)=true then some (V.ref p)else none) (G.As.map (·.p)) g.played) I.played hD (Ih (by rw[List.length_map,I.len])) (pA (by rw[List.length_map,I.len];omega)) (fun i p acc R R' hp kp hy hn=>?_) ?_⟩
  ·obtain⟨A,hA,rfl⟩:∃ A,G.As[i]?=some A∧A.p=p:=by
    rw[List.getElem?_map]at hp
    cases q:G.As[i]? with
    |none=>rw[q]at hp;cases hp
    |some A=>rw[q]at hp;exact⟨A,rfl,Option.some.inj hp⟩
   obtain⟨x,hx⟩:∃ x,g.played[i]?=some x:=⟨_,List.getElem?_eq_getElem (by rw[←I.len];exact (List.getElem?_eq_some_iff.mp hA).1)⟩
   have J:=I.iT i A x hA hx;have ho2:=kp _ _ J.ob;have hz:=Ht (f:=fun p (i:aq.ak)=>if decide (i.side=sd)=true then some (V.ref p)else none) hp hx;refine⟨rfl,_,rfl,_,_,_,_,_,rfl,ho2,T.Innings.cl,T.Innings.pF,dW,_,rfl,_,_,rfl,rfl,_,rfl,?_⟩;by_cases hc:x.side=sd
   ·exact bH (decide_eq_true (by show((x.side:Nat):Int)=sd;rw[hc])) ⟨_,rfl,hy _ (by rw[hz,if_pos (decide_eq_true hc)])⟩
   ·exact cw (decide_eq_false (by show¬((x.side:Nat):Int)=sd;omega)) (hn (by rw[hz,if_neg (by simp[hc])]))
  ·rw[Of sd I.len];exact k0 D hD
theorem Ov(l:List Nat):(l.map fun(n:Nat)=>(n:Int)).sum=((l.sum:Nat):Int):=by
 induction l with
 |nil=>rfl
 |cons x r ih=>rw[List.map_cons,List.sum_cons,List.sum_cons,ih];rfl
inductive E6(a:Ad)(vs:List V)(H:Hp)(Q:VK):Prop
 |mk(t:Tag)(G:bE)(g:aq.ab)(s:Nat)(_:vs=[.ref G.p,.int s])(_:aL a H t G g)(_:g.played.length≤4)(_:∀ H',a6 H H'→Q (.int (g.cU s)) H')
def Cz(a:Ad):Sp:=fun vs H Q _=>E6 a vs H Q
theorem n8:ao ["self","side","innings"] ["self","side"] (ai qe):=⟨rfl,rfl,rfl,by decide +kernel,rfl,by decide +kernel,by decide +kernel⟩
theorem vj(T:Txt K mg a):aZ P w K mg base cG 2 (a.f 70) (a.d 70) ["self","side"] (Cz a):=by
 refine T.ab.qG.F.ok n8 (fun vs H Q E h=>?_) (fun cdv A outer s H vs Q E hr h=>?_)
 ·obtain⟨t,G,g,sd,rfl,_⟩:=h;rfl
 ·obtain⟨t,G,g,sd,rfl,I,h4,k0⟩:=h;refine⟨_,(ag (ay (ba (P0 rfl) rfl T.fn.NV PyProof.Rows.boot_sum (aK (B3 rfl n8.nd (uV (aU (pv 0) T.ab.cl T.ab.df (gN T) (hr.mono (by decide)) T.ab.f7.b au (aK (pv 1) ah))) (lL (own:=[("innings",2)]) (by kernel_rfl)) (fun _ _ _ _ _=>mY (i:=2) n8.nd rfl (Or.inl rfl)) (fun _ _ _ _ _=>by exact xC) (fun _ _ _ _ _=>by exact (zp (K:=K) rfl (zp (K:=K) rfl (pv 2) rfl) rfl))) ah)))),?_⟩
  refine⟨_,rfl,_,_,_,rfl,I.ob,fQ,_,rfl,t,G,g,sd,rfl,I,h4,fun D hD=>?_⟩;have s1:=aA (o:=.lst (((sel sd G.As g.played).map (·.1.p)).map V.ref)) hD;have hlen:(sel sd G.As g.played).length≤4:=by
   have:(sel sd G.As g.played).length=(g.played.filter fun i=>i.side==sd).length:=by rw[←Hw sd I.len,List.length_map]
   rw[this];exact Nat.le_trans (List.length_filter_le _ _) h4
  refine⟨_,rfl,⟨_,bD.of aa⟩,fun D2 hD2=>zI (K:=K) ((sel sd G.As g.played).map fun q=>some (V.int (q.2.runs:Nat))) aa hD2 (by simp) (pA (by rw[List.length_map];omega)) (fun i p acc R R' hp kp hy hn=>?_) ?_⟩
  ·obtain⟨q,hq,rfl⟩:∃ q,(sel sd G.As g.played)[i]?=some q∧q.1.p=p:=by
    rw[List.getElem?_map]at hp
    cases z:(sel sd G.As g.played)[i]? with
    |none=>rw[z]at hp;cases hp
    |some A=>rw[z]at hp;exact⟨A,rfl,Option.some.inj hp⟩
   obtain⟨k,hA,hi,hs⟩:=Ip (List.mem_of_getElem? hq);have J:=I.iT k _ _ hA hi;obtain⟨os,hos,ds,rfl⟩:=J.sums;have ho2:=kp _ _ (s1 _ _ J.ob);have ho3:=kp _ _ (s1 _ _ hos);exact⟨rfl,_,rfl,_,_,_,_,_,rfl,ho2,T.Innings.cl,T.Innings.kE,di,_,_,_,_,_,rfl,ho3,T.bB.cl,T.bB.bz,kY,hy _ (by rw[List.getElem?_map,hq];rfl)⟩
  ·have ef:((sel sd G.As g.played).map fun q=>some (V.int (q.2.runs:Nat))).filterMap id=(((sel sd G.As g.played).map (·.2)).map fun i=>((i.runs:Nat):Int)).map V.int:=by
    induction sel sd G.As g.played with
    |nil=>rfl
    |cons q r ih=>simp only[List.map_cons,List.filterMap_cons,id,ih]
   rw[ef,Hw sd I.len];refine⟨_,(g.played.filter fun i=>i.side==sd).map fun i=>((i.runs:Nat):Int),rfl,bD.of aa,?_⟩;have es:((g.played.filter fun i=>i.side==sd).map fun i=>((i.runs:Nat):Int)).sum=((g.cU sd:Nat):Int):=by
    unfold aq.ab.cU;rw[←Ov,List.map_map];rfl
   rw[es];exact k0 _ (s1.trans (aA hD2))
inductive DH(a:Ad)(vs:List V)(H:Hp)(Q:VK):Prop
 |mk(t:Tag)(G:bE)(g:aq.ab)(s:Nat)(_:vs=[.ref G.p,.int s])(_:aL a H t G g)(_:g.played.length≤4)(_:s≤1)(_:∀ H',a6 H H'→Q (.int (g.lead s)) H')
def CP(a:Ad):Sp:=fun vs H Q _=>DH a vs H Q
theorem Ct:ao ["self","side"] ["self","side"] (ai pU):=⟨rfl,rfl,rfl,by decide +kernel,rfl,by decide +kernel,by decide +kernel⟩
theorem j8(T:Txt K mg a):aZ P w K mg base cG 3 (a.f 71) (a.d 71) ["self","side"] (CP a):=by
 refine T.ab.iZ.F.ok Ct (fun vs H Q E h=>?_) (fun cdv A outer s H vs Q E hr h=>?_)
 ·obtain⟨t,G,g,sd,rfl,_⟩:=h;rfl
 ·obtain⟨t,G,g,sd,rfl,I,h4,h1,k0⟩:=h;refine⟨_,(ag (ay (bM sg (aU (pv 0) T.ab.cl T.ab.ji (vj T) (hr.mono (by decide)) T.ab.qG.b au (aK (pv 1) ah)) (aU (pv 0) T.ab.cl T.ab.ji (vj T) (hr.mono (by decide)) T.ab.qG.b au (aK (bM sg aj (pv 1)) ah))))),?_⟩;have e:(1-((sd:Nat):Int))=((1-sd:Nat):Int):=by omega
  refine⟨_,rfl,_,_,_,rfl,I.ob,qZ,_,rfl,t,G,g,sd,rfl,I,h4,fun H1 s1=>?_⟩;have I1:=I.same s1;exact⟨_,rfl,_,_,_,rfl,I1.ob,qZ,_,rfl,_,_,rfl,rfl,t,G,g,1-sd,(by show[V.ref G.p,V.int (1-((sd:Nat):Int))]=_;rw[e]),I1,h4,fun H2 s2=>⟨_,_,rfl,rfl,k0 H2 (s1.trans s2)⟩⟩
inductive zw(a:Ad)(vs:List V)(H:Hp)(Q:VK):Prop
 |mk(t:Tag)(G:bE)(g:aq.ab)(_:vs=[.ref G.p])(_:aL a H t G g)(_:Q (.bl g.bZ) H)
def zk(a:Ad):Sp:=fun vs H Q _=>zw a vs H Q
theorem yL:ao ["self"] ["self"] (ai k8):=⟨rfl,rfl,rfl,by decide +kernel,rfl,by decide +kernel,by decide +kernel⟩
theorem kI(T:Txt K mg a):aZ P w K mg base cG 1 (a.f 72) (a.d 72) ["self"] (zk a):=by
 refine T.ab.iO.F.ok yL (fun vs H Q E h=>?_) (fun cdv A outer s H vs Q E hr h=>?_)
 ·obtain⟨t,G,g,rfl,_⟩:=h;rfl
 ·obtain⟨t,G,g,rfl,I,k0⟩:=h;refine⟨_,(ag (ay (bP (bx (ba aP rfl T.fn.c8 PySem.boot_len (aK (af (pv 0) rfl) ah)) (bM NT aj (af (pv 0) rfl)))))),?_⟩;have e:g.bZ=decide ((((G.As.map (·.p)).map V.ref).length:Int)=2*(g.rules.sides:Int)):=by
   unfold aq.ab.bZ;rw[List.length_map,List.length_map,I.len,decide_eq_decide];omega
  rw[e]at k0;exact⟨_,rfl,_,_,_,_,_,rfl,I.ob,T.ab.cl,T.ab.bF,aV,_,_,rfl,.inl (bD.of I.played),_,rfl,_,_,_,_,_,rfl,I.ob,T.ab.cl,T.ab.jj,oI,_,_,rfl,rfl,.inl ⟨by decide,by decide⟩,_,_,rfl,rfl,k0⟩
inductive oU(a:Ad)(vs:List V)(H:Hp)(Q:VK):Prop
 |mk(t:Tag)(G:bE)(g:aq.ab)(_:vs=[.ref G.p])(_:aL a H t G g)(_:Gd g)(_:∀ H',a6 H H'→Q (.bl g.fW) H')
def nU(a:Ad):Sp:=fun vs H Q _=>oU a vs H Q
theorem ox:ao ["self"] ["self"] (ai eH):=⟨rfl,rfl,rfl,by decide +kernel,rfl,by decide +kernel,by decide +kernel⟩
theorem nM(T:Txt K mg a):aZ P w K mg base cG 4 (a.f 74) (a.d 74) ["self"] (nU a):=by
 refine T.ab.iK.F.ok ox (fun vs H Q E h=>?_) (fun cdv A outer s H vs Q E hr h=>?_)
 ·obtain⟨t,G,g,rfl,_⟩:=h;rfl
 ·obtain⟨t,G,g,rfl,I,gd,k0⟩:=h;refine⟨_,(ag (ay (du (bP (bx (ba aP rfl T.fn.c8 PySem.boot_len (aK (af (pv 0) rfl) ah)) aj)) (eE (bP (yo (aU (pv 0) T.ab.cl T.ab.e8 (j8 T) (hr.mono (by decide)) T.ab.iZ.b au (aK (af (aM aD (af (pv 0) rfl) aj (fun _ _=>rfl)) rfl) ah)) aj)))))),?_⟩;have hlen:((G.As.map (·.p)).map V.ref).length=g.played.length:=by rw[List.length_map,List.length_map,I.len]
  unfold aq.ab.fW at k0;refine⟨_,rfl,_,_,_,_,_,rfl,I.ob,T.ab.cl,T.ab.bF,aV,_,_,rfl,.inl (bD.of I.played),_,_,rfl,rfl,_,rfl,?_⟩;rw[hlen];by_cases h3:g.played.length=3
  ·obtain⟨i,hi⟩:∃ i,g.played[2]?=some i:=⟨_,List.getElem?_eq_getElem (by omega)⟩
   obtain⟨A,hA,J,hat⟩:=I.KU hi;rw[hi]at k0;simp only[h3,decide_true,Bool.true_and]at k0;refine bH (decide_eq_true (by rw[h3];rfl)) ⟨_,rfl,_,_,_,rfl,I.ob,iI,_,rfl,_,_,_,_,_,rfl,I.ob,T.ab.cl,T.ab.bF,aV,_,_,_,_,rfl,rfl,bD.of I.played,hat,_,_,_,_,_,rfl,J.ob,T.Innings.cl,T.Innings.pF,dW,t,G,g,i.side,rfl,I,gd.len,gd.side i (List.mem_of_getElem? hi),fun H1 s1=>⟨_,_,rfl,rfl,k0 H1 s1⟩⟩
  ·have e:decide (g.played.length=3)=false:=decide_eq_false h3;simp only[e,Bool.false_and]at k0;exact cw (decide_eq_false (by omega)) (k0 H (a6.refl H))
inductive EE(a:Ad)(vs:List V)(H:Hp)(Q:VK):Prop
 |mk(t:Tag)(G:bE)(g:aq.ab)(_:vs=[.ref G.p])(_:aL a H t G g)(_:Gd g)(_:∀ H',a6 H H'→Q (.bl g.bV) H')
def CC(a:Ad):Sp:=fun vs H Q _=>EE a vs H Q
theorem C3:ao ["self"] ["self"] (ai qd):=⟨rfl,rfl,rfl,by decide +kernel,rfl,by decide +kernel,by decide +kernel⟩
theorem j4(T:Txt K mg a):aZ P w K mg base cG 5 (a.f 73) (a.d 73) ["self"] (CC a):=by
 refine T.ab.jk.F.ok C3 (fun vs H Q E h=>?_) (fun cdv A outer s H vs Q E hr h=>?_)
 ·obtain⟨t,G,g,rfl,_⟩:=h;rfl
 ·obtain⟨t,G,g,rfl,I,gd,k0⟩:=h;refine⟨_,(ae (bN (dR (af (pv 0) rfl)) (ag (ay pI)) aY) (ae (bN (aT (rh (az (pv 0) T.ab.cl T.ab.bb (bj T) (hr.mono (by decide)) T.ab.bp.b .nil au ))) (ag (ay pI)) aY) (ag (ay (IK (az (pv 0) T.ab.cl T.ab.dX (kI T) (hr.mono (by decide)) T.ab.iO.b .nil au ) (eE (az (pv 0) T.ab.cl T.ab.c7 (nM T) (hr.mono (by decide)) T.ab.iK.b .nil au ))))))),?_⟩;unfold aq.ab.bV at k0;refine⟨_,rfl,_,_,_,_,_,rfl,I.ob,T.ab.cl,T.ab.dM,iR,_,rfl,?_⟩;refine eM (fun h=>?_) (fun h=>?_)
  ·rw[if_pos h]at k0;exact k0 H (a6.refl H)
  ·rw[if_neg h]at k0;refine⟨_,rfl,_,_,_,rfl,I.ob,aO,t,G,g,rfl,I,fun hc=>?_,fun i ps As A hc e eA el J=>?_⟩
   ·rw[hc]at k0;simp only[Option.isSome_none,Bool.false_eq_true,if_false]at k0;refine⟨_,rfl,?_⟩;refine cw rfl ⟨_,rfl,_,_,_,rfl,I.ob,i9,t,G,g,rfl,I,_,rfl,?_⟩
    cases z:g.bZ with
    |true=>
     rw[z]at k0;exact vD (k0 H (a6.refl H))
    |false=>
     rw[z]at k0;exact lZ ⟨_,rfl,_,_,_,rfl,I.ob,mr,t,G,g,rfl,I,gd,k0⟩
   ·rw[hc]at k0;simp only[Option.isSome_some,if_true]at k0;exact⟨_,rfl,bH rfl (k0 H (a6.refl H))⟩
inductive BR(a:Ad)(vs:List V)(H:Hp)(Q:VK):Prop
 |mk(t:Tag)(G:bE)(g:aq.ab)(_:vs=[.ref G.p])(_:aL a H t G g)(_:Q (.int g.aS) H)
def Ae(a:Ad):Sp:=fun vs H Q _=>BR a vs H Q
theorem rj:ao ["self","turn"] ["self"] (ai mO):=⟨rfl,rfl,rfl,by decide +kernel,rfl,by decide +kernel,by decide +kernel⟩
theorem Ac(T:Txt K mg a):aZ P w K mg base cG 1 (a.f 76) (a.d 76) ["self"] (Ae a):=by
 refine T.ab.sU.F.ok rj (fun vs H Q E h=>?_) (fun cdv A outer s H vs Q E hr h=>?_)
 ·obtain⟨t,G,g,rfl,_⟩:=h;rfl
 ·obtain⟨t,G,g,rfl,I,k0⟩:=h;refine⟨_,(ae (aX (i:=1) rj.nd rfl (Or.inl rfl) (bM Nl (ba aP rfl T.fn.c8 PySem.boot_len (aK (af (pv 0) rfl) ah)) aj)) (ag (ay (dk (dR (af (pv 0) rfl)) (bM sg aj (pv 1)) (pv 1))))),?_⟩;have hlen:((G.As.map (·.p)).map V.ref).length=g.played.length:=by rw[List.length_map,List.length_map,I.len]
  refine⟨_,rfl,_,_,_,_,_,rfl,I.ob,T.ab.cl,T.ab.bF,aV,_,_,rfl,.inl (bD.of I.played),_,_,rfl,rfl,(by show(0:Int)<2;decide),?_⟩;rw[hlen];unfold aq.ab.aS at k0;refine⟨_,rfl,_,_,_,_,_,rfl,I.ob,T.ab.cl,T.ab.eU,kM,_,rfl,?_⟩;refine eM (fun h=>?_) (fun h=>?_)
  ·rw[if_pos h]at k0;have e:(((1-g.played.length % 2:Nat):Int))=1-((g.played.length:Int) % 2):=by omega
   rw[e]at k0;exact⟨_,rfl,_,_,rfl,rfl,k0⟩
  ·rw[if_neg h]at k0;exact⟨_,rfl,k0⟩
end
end Sb
namespace Sb
open PySem L2
section
variable{P:Program}{w:World}{K:PySem.W.Frag}{mg:Str→Option Value}{base:Heap}{a:Ad}
theorem jh{A:cO}{n:N.ak}{z:Int}(k:Nat)(h:z=(k:Int)):aw "ended" (.int z) (aC A n)=aC A { n with ended:=k }:=by subst h;exact BD k
theorem uM{A:Addr}:decide (V.ref A=V.non)=false:=decide_eq_false (fun h=>by cases h)
inductive ya(a:Ad)(vs:List V)(H:Hp)(Q:VK):Prop
 |mk(t:Tag)(G:bE)(g:aq.ab)(_:vs=[.ref G.p])(_:aL a H t G g)(_:Gd g)(_:tD a H t G g.aF (Q .non))
def wy(a:Ad):Sp:=fun vs H Q _=>ya a vs H Q
theorem m8:ao ["self","innings"] ["self"] (ai jJ):=⟨rfl,rfl,rfl,by decide +kernel,rfl,by decide +kernel,by decide +kernel⟩
theorem fT(T:Txt K mg a):aZ P w K mg base cG 4 (a.f 78) (a.d 78) ["self"] (wy a):=by
 refine T.ab.eu.F.ok m8 (fun vs H Q E h=>?_) (fun cdv A outer s H vs Q E hr h=>?_)
 ·obtain⟨t,G,g,rfl,_⟩:=h;rfl
 ·obtain⟨t,G,g,rfl,I,gd,k0⟩:=h;refine⟨_,(ae (aX (i:=1) m8.nd rfl (Or.inl rfl) (az (pv 0) T.ab.cl T.ab.bb (bj T) (hr.mono (by decide)) T.ab.bp.b .nil au )) (ae (bN (aT (NR (pv 1))) (ag Px) aY) (ag (bN (PW.pt (uU (dR (az (pv 0) T.ab.cl T.ab.dX (kI T) (hr.mono (by decide)) T.ab.iO.b .nil au )) (oV (aT (kT (aU (pv 0) T.ab.cl T.ab.e8 (j8 T) (hr.mono (by decide)) T.ab.iZ.b au (aK (af (pv 1) rfl) ah)) aj))))) (ag (aW (pv 1) (aN rfl T.fn.nQ) rfl)) (ag (bN (PW.pt (uU (dR (az (pv 1) T.Innings.cl T.Innings.bL (cK T) (hr.mono (by decide)) T.Innings.cq.b .nil au )) (oV (Es (dR (az (pv 1) T.Innings.cl T.Innings.cC (l6 T) (hr.mono (by decide)) T.Innings.gD.b .nil au )))))) (ag (aW (pv 1) (aN rfl T.fn.xK) rfl)) (ag (bN (PW.pt (uU (aT (nK (af (pv 0) rfl) aj)) (oV (dR (aU (pv 1) T.Innings.cl T.Innings.dy (pW T) (hr.mono (by decide)) T.Innings.jD.b au (aK (af (pv 0) rfl) ah)))))) (ag (aW (pv 1) (aN rfl T.fn.pG) rfl)) aY)))))))),?_⟩;refine⟨_,rfl,_,_,_,rfl,I.ob,aO,t,G,g,rfl,I,fun hc=>?_,fun i ps As A hc e eA el J=>?_⟩
  ·have q0:g.aF=g:=by unfold aq.ab.aF;rw[hc]
   rw[q0]at k0;exact⟨_,rfl,_,rfl,vD (k0.go I Step.refl (Ext.refl G) rfl)⟩
  ·have hi:i∈g.played:=by rw[e];simp
   refine⟨_,rfl,_,rfl,cw uM ?_⟩;have s0:a6 H H:=a6.refl H;refine⟨_,rfl,_,_,_,rfl,I.ob,i9,t,G,g,rfl,I,_,rfl,?_⟩
   cases z1:g.bZ with
   |false=>
    have c1:¬(g.bZ=true∧0<g.lead i.side):=fun z=>by rw[z1]at z;cases z.1
    refine lZ (lZ ?_);have I2:=I.same s0;have J2:=J.same s0;refine⟨_,rfl,_,_,_,rfl,J2.ob,bY,_,_,_,_,rfl,J2,_,rfl,?_⟩
    cases z2:(N.proj i).aH with
    |false=>
     have z2':i.aH=false:=z2;have c2:¬(i.aH=true∧i.dD=false):=fun z=>by rw[z2']at z;cases z.1
     refine lZ (lZ ?_);have I3:=I.same s0;have J3:=J.same s0;refine⟨_,rfl,_,_,_,_,_,rfl,I3.ob,T.ab.cl,T.ab.b6,bJ,_,_,rfl,rfl,_,rfl,?_⟩;by_cases c3:g.rules.overs=0
     ·have c3':¬(g.rules.overs≠0∧i.cp g.rules.overs=true):=fun z=>z.1 c3
      refine cw (by rw[c3];rfl) (lZ ?_);have q0:g.aF=g:=by
       unfold aq.ab.aF;rw[hc];simp only[];rw[if_neg c1,if_neg c2,if_neg c3']
      rw[q0]at k0;exact k0.go I3 (Step.same s0) (Ext.refl G) rfl
     ·refine bH (by simp[c3]) ⟨_,rfl,_,_,_,rfl,J3.ob,cQ,_,rfl,_,_,_,_,_,rfl,I3.ob,T.ab.cl,T.ab.b6,bJ,_,_,_,_,_,rfl,J3,_,rfl,?_⟩;rw[N.mT (gd.ok i hi) (gd.ex i hi)];refine eM (fun h=>?_) (fun h=>?_)
      ·have q3:g.aF={ g with played:=ps++[{ i with ended:=3 }] }:=by
        unfold aq.ab.aF;rw[hc];simp only[];rw[if_neg c1,if_neg c2,if_pos ⟨c3,h⟩,aq.ab.aG e]
       have I5:=I.same s0;have J5:=J.same s0;refine⟨_,rfl,_,_,_,_,rfl,J5.ob,T.Innings.cl,T.Innings.gm,bu,?_⟩;obtain⟨J6,st6⟩:=J5.jV 3;rw[jh (z:=3) 3 rfl];obtain⟨I6,st7,ex⟩:=I5.Bt (i':={ i with ended:=3 }) e eA el st6 rfl J6;rw[q3]at k0;exact k0.go I6 ((Step.same s0).trans st7) ex rfl
      ·have q0:g.aF=g:=by
        unfold aq.ab.aF;rw[hc];simp only[];rw[if_neg c1,if_neg c2,if_neg (fun z=>h z.2)]
       rw[q0]at k0;exact k0.go I3 (Step.same s0) (Ext.refl G) rfl
    |true=>
     have z2':i.aH=true:=z2;refine vD ⟨_,rfl,_,_,_,rfl,J2.ob,fC,_,_,_,_,rfl,J2,gd.AE i hi,fun H2 s2=>⟨_,rfl,?_⟩⟩;have s12:=s0.trans s2
     cases z3:(N.proj i).dD with
     |false=>
      have z3':i.dD=false:=z3;have q1:g.aF={ g with played:=ps++[{ i with ended:=1 }] }:=by
       unfold aq.ab.aF;rw[hc];simp only[];rw[if_neg c1,if_pos ⟨z2',z3'⟩,aq.ab.aG e]
      refine vD ?_;have I5:=I.same s12;have J5:=J.same s12;refine⟨_,rfl,_,_,_,_,rfl,J5.ob,T.Innings.cl,T.Innings.gm,bu,?_⟩;obtain⟨J6,st6⟩:=J5.jV 1;rw[jh (z:=1) 1 rfl];obtain⟨I6,st7,ex⟩:=I5.Bt (i':={ i with ended:=1 }) e eA el st6 rfl J6;rw[q1]at k0;exact k0.go I6 ((Step.same s12).trans st7) ex rfl
     |true=>
      have z3':i.dD=true:=z3;have c2:¬(i.aH=true∧i.dD=false):=fun z=>by rw[z3']at z;cases z.2
      refine lZ ?_;have I3:=I.same s12;have J3:=J.same s12;refine⟨_,rfl,_,_,_,_,_,rfl,I3.ob,T.ab.cl,T.ab.b6,bJ,_,_,rfl,rfl,_,rfl,?_⟩;by_cases c3:g.rules.overs=0
      ·have c3':¬(g.rules.overs≠0∧i.cp g.rules.overs=true):=fun z=>z.1 c3
       refine cw (by rw[c3];rfl) (lZ ?_);have q0:g.aF=g:=by
        unfold aq.ab.aF;rw[hc];simp only[];rw[if_neg c1,if_neg c2,if_neg c3']
       rw[q0]at k0;exact k0.go I3 (Step.same s12) (Ext.refl G) rfl
      ·refine bH (by simp[c3]) ⟨_,rfl,_,_,_,rfl,J3.ob,cQ,_,rfl,_,_,_,_,_,rfl,I3.ob,T.ab.cl,T.ab.b6,bJ,_,_,_,_,_,rfl,J3,_,rfl,?_⟩;rw[N.mT (gd.ok i hi) (gd.ex i hi)];refine eM (fun h=>?_) (fun h=>?_)
       ·have q3:g.aF={ g with played:=ps++[{ i with ended:=3 }] }:=by
         unfold aq.ab.aF;rw[hc];simp only[];rw[if_neg c1,if_neg c2,if_pos ⟨c3,h⟩,aq.ab.aG e]
        have I5:=I.same s12;have J5:=J.same s12;refine⟨_,rfl,_,_,_,_,rfl,J5.ob,T.Innings.cl,T.Innings.gm,bu,?_⟩;obtain⟨J6,st6⟩:=J5.jV 3;rw[jh (z:=3) 3 rfl];obtain⟨I6,st7,ex⟩:=I5.Bt (i':={ i with ended:=3 }) e eA el st6 rfl J6;rw[q3]at k0;exact k0.go I6 ((Step.same s12).trans st7) ex rfl
       ·have q0:g.aF=g:=by
         unfold aq.ab.aF;rw[hc];simp only[];rw[if_neg c1,if_neg c2,if_neg (fun z=>h z.2)]
        rw[q0]at k0;exact k0.go I3 (Step.same s12) (Ext.refl G) rfl
   |true=>
    refine vD ⟨_,rfl,_,_,_,rfl,I.ob,iI,_,rfl,_,_,_,_,_,rfl,J.ob,T.Innings.cl,T.Innings.pF,dW,t,G,g,i.side,rfl,I,gd.len,gd.side i hi,fun H1 s1=>⟨_,_,rfl,rfl,_,rfl,?_⟩⟩;refine eM (fun h=>?_) (fun h=>?_)
    ·have q4:g.aF={ g with played:=ps++[{ i with ended:=4 }] }:=by
      unfold aq.ab.aF;rw[hc];simp only[];rw[if_pos ⟨z1,iA h⟩,aq.ab.aG e]
     have I5:=I.same s1;have J5:=J.same s1;refine⟨_,rfl,_,_,_,_,rfl,J5.ob,T.Innings.cl,T.Innings.gm,bu,?_⟩;obtain⟨J6,st6⟩:=J5.jV 4;rw[jh (z:=4) 4 rfl];obtain⟨I6,st7,ex⟩:=I5.Bt (i':={ i with ended:=4 }) e eA el st6 rfl J6;rw[q4]at k0;exact k0.go I6 ((Step.same s1).trans st7) ex rfl
    ·have c1:¬(g.bZ=true∧0<g.lead i.side):=fun z=>h (decide_eq_true z.2)
     have I2:=I.same s1;have J2:=J.same s1;refine⟨_,rfl,_,_,_,rfl,J2.ob,bY,_,_,_,_,rfl,J2,_,rfl,?_⟩
     cases z2:(N.proj i).aH with
     |false=>
      have z2':i.aH=false:=z2;have c2:¬(i.aH=true∧i.dD=false):=fun z=>by rw[z2']at z;cases z.1
      refine lZ (lZ ?_);have I3:=I.same s1;have J3:=J.same s1;refine⟨_,rfl,_,_,_,_,_,rfl,I3.ob,T.ab.cl,T.ab.b6,bJ,_,_,rfl,rfl,_,rfl,?_⟩;by_cases c3:g.rules.overs=0
      ·have c3':¬(g.rules.overs≠0∧i.cp g.rules.overs=true):=fun z=>z.1 c3
       refine cw (by rw[c3];rfl) (lZ ?_);have q0:g.aF=g:=by
        unfold aq.ab.aF;rw[hc];simp only[];rw[if_neg c1,if_neg c2,if_neg c3']
       rw[q0]at k0;exact k0.go I3 (Step.same s1) (Ext.refl G) rfl
      ·refine bH (by simp[c3]) ⟨_,rfl,_,_,_,rfl,J3.ob,cQ,_,rfl,_,_,_,_,_,rfl,I3.ob,T.ab.cl,T.ab.b6,bJ,_,_,_,_,_,rfl,J3,_,rfl,?_⟩;rw[N.mT (gd.ok i hi) (gd.ex i hi)];refine eM (fun h=>?_) (fun h=>?_)
       ·have q3:g.aF={ g with played:=ps++[{ i with ended:=3 }] }:=by
         unfold aq.ab.aF;rw[hc];simp only[];rw[if_neg c1,if_neg c2,if_pos ⟨c3,h⟩,aq.ab.aG e]
        have I5:=I.same s1;have J5:=J.same s1;refine⟨_,rfl,_,_,_,_,rfl,J5.ob,T.Innings.cl,T.Innings.gm,bu,?_⟩;obtain⟨J6,st6⟩:=J5.jV 3;rw[jh (z:=3) 3 rfl];obtain⟨I6,st7,ex⟩:=I5.Bt (i':={ i with ended:=3 }) e eA el st6 rfl J6;rw[q3]at k0;exact k0.go I6 ((Step.same s1).trans st7) ex rfl
       ·have q0:g.aF=g:=by
         unfold aq.ab.aF;rw[hc];simp only[];rw[if_neg c1,if_neg c2,if_neg (fun z=>h z.2)]
        rw[q0]at k0;exact k0.go I3 (Step.same s1) (Ext.refl G) rfl
     |true=>
      have z2':i.aH=true:=z2;refine vD ⟨_,rfl,_,_,_,rfl,J2.ob,fC,_,_,_,_,rfl,J2,gd.AE i hi,fun H2 s2=>⟨_,rfl,?_⟩⟩;have s12:=s1.trans s2
      cases z3:(N.proj i).dD with
      |false=>
       have z3':i.dD=false:=z3;have q1:g.aF={ g with played:=ps++[{ i with ended:=1 }] }:=by
        unfold aq.ab.aF;rw[hc];simp only[];rw[if_neg c1,if_pos ⟨z2',z3'⟩,aq.ab.aG e]
       refine vD ?_;have I5:=I.same s12;have J5:=J.same s12;refine⟨_,rfl,_,_,_,_,rfl,J5.ob,T.Innings.cl,T.Innings.gm,bu,?_⟩;obtain⟨J6,st6⟩:=J5.jV 1;rw[jh (z:=1) 1 rfl];obtain⟨I6,st7,ex⟩:=I5.Bt (i':={ i with ended:=1 }) e eA el st6 rfl J6;rw[q1]at k0;exact k0.go I6 ((Step.same s12).trans st7) ex rfl
      |true=>
       have z3':i.dD=true:=z3;have c2:¬(i.aH=true∧i.dD=false):=fun z=>by rw[z3']at z;cases z.2
       refine lZ ?_;have I3:=I.same s12;have J3:=J.same s12;refine⟨_,rfl,_,_,_,_,_,rfl,I3.ob,T.ab.cl,T.ab.b6,bJ,_,_,rfl,rfl,_,rfl,?_⟩;by_cases c3:g.rules.overs=0
       ·have c3':¬(g.rules.overs≠0∧i.cp g.rules.overs=true):=fun z=>z.1 c3
        refine cw (by rw[c3];rfl) (lZ ?_);have q0:g.aF=g:=by
         unfold aq.ab.aF;rw[hc];simp only[];rw[if_neg c1,if_neg c2,if_neg c3']
        rw[q0]at k0;exact k0.go I3 (Step.same s12) (Ext.refl G) rfl
       ·refine bH (by simp[c3]) ⟨_,rfl,_,_,_,rfl,J3.ob,cQ,_,rfl,_,_,_,_,_,rfl,I3.ob,T.ab.cl,T.ab.b6,bJ,_,_,_,_,_,rfl,J3,_,rfl,?_⟩;rw[N.mT (gd.ok i hi) (gd.ex i hi)];refine eM (fun h=>?_) (fun h=>?_)
        ·have q3:g.aF={ g with played:=ps++[{ i with ended:=3 }] }:=by
          unfold aq.ab.aF;rw[hc];simp only[];rw[if_neg c1,if_neg c2,if_pos ⟨c3,h⟩,aq.ab.aG e]
         have I5:=I.same s12;have J5:=J.same s12;refine⟨_,rfl,_,_,_,_,rfl,J5.ob,T.Innings.cl,T.Innings.gm,bu,?_⟩;obtain⟨J6,st6⟩:=J5.jV 3;rw[jh (z:=3) 3 rfl];obtain⟨I6,st7,ex⟩:=I5.Bt (i':={ i with ended:=3 }) e eA el st6 rfl J6;rw[q3]at k0;exact k0.go I6 ((Step.same s12).trans st7) ex rfl
        ·have q0:g.aF=g:=by
          unfold aq.ab.aF;rw[hc];simp only[];rw[if_neg c1,if_neg c2,if_neg (fun z=>h z.2)]
         rw[q0]at k0;exact k0.go I3 (Step.same s12) (Ext.refl G) rfl
inductive yk(a:Ad)(vs:List V)(H:Hp)(Q:VK):Prop
 |mk(t:Tag)(G:bE)(g:aq.ab)(i:aq.ak)(_:vs=[.ref G.p])(_:aL a H t G g)(_:Gd g)(_:g.current=some i)(_:∀ H',a6 H H'→Q (.int (g.b9 i)) H')
def vV(a:Ad):Sp:=fun vs H Q _=>yk a vs H Q
theorem nA:ao ["self","innings"] ["self"] (ai jL):=⟨rfl,rfl,rfl,by decide +kernel,rfl,by decide +kernel,by decide +kernel⟩
theorem nz(T:Txt K mg a):aZ P w K mg base cG 3 (a.f 83) (a.d 83) ["self"] (vV a):=by
 refine T.ab.jK.F.ok nA (fun vs H Q E h=>?_) (fun cdv A outer s H vs Q E hr h=>?_)
 ·obtain⟨t,G,g,i,rfl,_⟩:=h;rfl
 ·obtain⟨t,G,g,i,rfl,I,gd,hc,k0⟩:=h;refine⟨_,(ae (aX (i:=1) nA.nd rfl (Or.inl rfl) (az (pv 0) T.ab.cl T.ab.bb (bj T) (hr.mono (by decide)) T.ab.bp.b .nil au )) (ae (bN (PW.pt (uU (dR (az (pv 1) T.Innings.cl T.Innings.bL (cK T) (hr.mono (by decide)) T.Innings.cq.b .nil au )) (oV (Es (dR (az (pv 1) T.Innings.cl T.Innings.cf (j1 T) (hr.mono (by decide)) T.Innings.fb.b .nil au )))))) (ag (ay (aN rfl T.fn.xK))) aY) (ag (ay (dk (aT (bx (af (pv 0) rfl) aj)) (aN rfl T.fn.Ei) (aN rfl T.fn.pq)))))),?_⟩;refine⟨_,rfl,_,_,_,rfl,I.ob,aO,t,G,g,rfl,I,(fun z=>by rw[hc]at z;cases z),fun j ps As A hj e eA el J=>?_⟩;rw[hc]at hj;cases hj;have hi:i∈g.played:=by rw[e];simp
  refine⟨_,rfl,_,_,_,rfl,J.ob,bY,_,_,_,_,rfl,J,_,rfl,?_⟩;have s0:a6 H H:=a6.refl H
  cases z2:(N.proj i).aH with
  |false=>
   have z2':i.aH=false:=z2;have c1:¬(i.aH=true∧i.vY=false):=fun z=>by rw[z2']at z;cases z.1
   refine lZ (lZ ?_);have I3:=I.same s0;refine⟨_,rfl,_,_,_,_,_,rfl,I3.ob,T.ab.cl,T.ab.b6,bJ,_,_,rfl,rfl,_,rfl,?_⟩;have k1:=k0 _ s0;unfold aq.ab.b9 at k1;rw[if_neg c1]at k1;refine IV (i:=2) (j:=0) ?_;have e2:(if decide ((g.rules.overs:Int)=0)=true then 2 else 0)=(if g.rules.overs=0 then 2 else 0):=by by_cases z:g.rules.overs=0<;>simp[z]
   rw[←e2]at k1;exact k1
  |true=>
   have z2':i.aH=true:=z2;refine vD ⟨_,rfl,_,_,_,rfl,J.ob,jA,_,_,_,_,rfl,J,gd.AE i hi,fun H2 s2=>⟨_,rfl,?_⟩⟩;rw[N.Gm (gd.ok i hi)]
   cases z3:decide (i.eW<11)with
   |false=>
    have c1:i.aH=true∧i.vY=false:=⟨z2',z3⟩
    have k1:=k0 _ s2;unfold aq.ab.b9 at k1;rw[if_pos c1]at k1;exact vD k1
   |true=>
    have c1:¬(i.aH=true∧i.vY=false):=fun z=>by
     have:i.vY=true:=z3;rw[this]at z
     cases z.2
    refine lZ ?_;have I3:=I.same s2;refine⟨_,rfl,_,_,_,_,_,rfl,I3.ob,T.ab.cl,T.ab.b6,bJ,_,_,rfl,rfl,_,rfl,?_⟩;have k1:=k0 _ s2;unfold aq.ab.b9 at k1;rw[if_neg c1]at k1;refine IV (i:=2) (j:=0) ?_;have e2:(if decide ((g.rules.overs:Int)=0)=true then 2 else 0)=(if g.rules.overs=0 then 2 else 0):=by by_cases z:g.rules.overs=0<;>simp[z]
    rw[←e2]at k1;exact k1
inductive HW(a:Ad)(vs:List V)(H:Hp)(Q:VK):Prop
 |mk(t:Tag)(G:bE)(g:aq.ab)(i:aq.ak)(_:vs=[.ref G.p])(_:aL a H t G g)(_:Gd g)(_:g.current=some i)(_:tD a H t G (g.cb fun j=>{ j with ended:=g.b9 i }) (Q .non))
def FU(a:Ad):Sp:=fun vs H Q _=>HW a vs H Q
theorem yq:ao ["self","innings"] ["self"] (ai tO):=⟨rfl,rfl,rfl,by decide +kernel,rfl,by decide +kernel,by decide +kernel⟩
theorem Fp(T:Txt K mg a):aZ P w K mg base cG 4 (a.f 84) (a.d 84) ["self"] (FU a):=by
 refine T.ab.zr.F.ok yq (fun vs H Q E h=>?_) (fun cdv A outer s H vs Q E hr h=>?_)
 ·obtain⟨t,G,g,i,rfl,_⟩:=h;rfl
 ·obtain⟨t,G,g,i,rfl,I,gd,hc,k0⟩:=h;refine⟨_,(ae (aX (i:=1) yq.nd rfl (Or.inl rfl) (az (pv 0) T.ab.cl T.ab.bb (bj T) (hr.mono (by decide)) T.ab.bp.b .nil au )) (ag (aW (pv 1) (az (pv 0) T.ab.cl T.ab.ez (nz T) (hr.mono (by decide)) T.ab.jK.b .nil au ) rfl))),?_⟩;refine⟨_,rfl,_,_,_,rfl,I.ob,aO,t,G,g,rfl,I,(fun z=>by rw[hc]at z;cases z),fun j ps As A hj e eA el J=>?_⟩;rw[hc]at hj;cases hj;refine⟨_,rfl,_,_,_,rfl,I.ob,lW,t,G,g,i,rfl,I,gd,hc,fun H1 s1=>?_⟩;have I5:=I.same s1;have J5:=J.same s1;refine⟨_,rfl,_,_,_,_,rfl,J5.ob,T.Innings.cl,T.Innings.gm,bu,?_⟩;obtain⟨J6,st6⟩:=J5.jV (g.b9 i);rw[BD (g.b9 i)];obtain⟨I6,st7,ex⟩:=I5.Bt (i':={ i with ended:=g.b9 i }) e eA el st6 rfl J6;rw[aq.ab.aG e]at k0;exact k0.go I6 ((Step.same s1).trans st7) ex rfl
inductive BK(a:Ad)(vs:List V)(H:Hp)(Q:VK):Prop
 |mk(t:Tag)(G:bE)(g:aq.ab)(_:vs=[.ref G.p])(_:aL a H t G g)(_:tD a H t G { g with followed:=true } (Q .non))
def Ax(a:Ad):Sp:=fun vs H Q _=>BK a vs H Q
theorem Aq:ao ["self"] ["self"] (ai mH):=⟨rfl,rfl,rfl,by decide +kernel,rfl,by decide +kernel,by decide +kernel⟩
theorem zE(T:Txt K mg a):aZ P w K mg base cG 1 (a.f 86) (a.d 86) ["self"] (Ax a):=by
 refine T.ab.sM.F.ok Aq (fun vs H Q E h=>?_) (fun cdv A outer s H vs Q E hr h=>?_)
 ·obtain⟨t,G,g,rfl,_⟩:=h;rfl
 ·obtain⟨t,G,g,rfl,I,k0⟩:=h;refine⟨_,(ag (aW (pv 0) pI rfl)),?_⟩;refine⟨_,rfl,_,_,_,_,rfl,I.ob,T.ab.cl,T.ab.eU,kn,?_⟩;obtain⟨I2,st2⟩:=I.fld (g':={ g with followed:=true }) rfl rfl;rw[Af];exact k0.go I2 st2 (Ext.refl G) rfl
inductive yT(a:Ad)(vs:List V)(H:Hp)(Q:VK):Prop
 |mk(t:Tag)(G:bE)(g:aq.ab)(_:vs=[.ref G.p])(_:aL a H t G g)(_:tD a H t G g.pj (Q .non))
def yj(a:Ad):Sp:=fun vs H Q _=>yT a vs H Q
theorem oJ:ao ["self","innings"] ["self"] (ai kz):=⟨rfl,rfl,rfl,by decide +kernel,rfl,by decide +kernel,by decide +kernel⟩
theorem yb(T:Txt K mg a):aZ P w K mg base cG 2 (a.f 88) (a.d 88) ["self"] (yj a):=by
 refine T.ab.pJ.F.ok oJ (fun vs H Q E h=>?_) (fun cdv A outer s H vs Q E hr h=>?_)
 ·obtain⟨t,G,g,rfl,_⟩:=h;rfl
 ·obtain⟨t,G,g,rfl,I,k0⟩:=h;refine⟨_,(ae (aX (i:=1) oJ.nd rfl (Or.inl rfl) (az (pv 0) T.ab.cl T.ab.bb (bj T) (hr.mono (by decide)) T.ab.bp.b .nil au )) (ae (bN (aT (rh (pv 1))) (ag (aW (pv 1) (aN rfl T.fn.By) rfl)) aY) (ag (aW (pv 0) pI rfl)))),?_⟩;unfold aq.ab.pj at k0;refine⟨_,rfl,_,_,_,rfl,I.ob,aO,t,G,g,rfl,I,fun hc=>?_,fun i ps As A hc e eA el J=>?_⟩
  ·rw[hc]at k0;simp only[]at k0;refine⟨_,rfl,_,rfl,cw rfl ?_⟩;refine⟨_,rfl,_,_,_,_,rfl,I.ob,T.ab.cl,T.ab.dM,kn,?_⟩;obtain⟨I2,st2⟩:=I.fld (g':={ g with up:=true }) rfl rfl;rw[Kv];exact k0.go I2 st2 (Ext.refl G) rfl
  ·rw[hc]at k0;simp only[]at k0;rw[aq.ab.aG e]at k0;refine⟨_,rfl,_,rfl,bH (by rw[uM];rfl) ⟨_,rfl,_,_,_,_,rfl,J.ob,T.Innings.cl,T.Innings.gm,bu,?_⟩⟩;obtain⟨J6,st6⟩:=J.jV 5;rw[jh (z:=5) 5 rfl];obtain⟨I6,st7,ex⟩:=I.Bt (i':={ i with ended:=5 }) e eA el st6 rfl J6;refine⟨_,rfl,_,_,_,_,rfl,I6.ob,T.ab.cl,T.ab.dM,kn,?_⟩;obtain⟨I7,st8⟩:=I6.fld (g':={ g with played:=ps++[{ i with ended:=5 }],up:=true }) rfl rfl;rw[Kv];exact k0.go I7 (st7.trans st8) ex rfl
inductive CF(a:Ad)(vs:List V)(H:Hp)(Q:VK):Prop
 |mk(t:Tag)(G:bE)(g:aq.ab)(i:aq.ak)(pl:Nat)(_:vs=[.ref G.p,.int pl])(_:aL a H t G g)(_:Gd g)(_:g.current=some i)(_:pl≤10)(_:∀ H',a6 H H'→Q (.bl (aq.ab.qp pl i g.rules.most)) H')
def AN(a:Ad):Sp:=fun vs H Q _=>CF a vs H Q
theorem tG:ao ["self","player","innings"] ["self","player"] (ai ou):=⟨rfl,rfl,rfl,by decide +kernel,rfl,by decide +kernel,by decide +kernel⟩
theorem AG(T:Txt K mg a):aZ P w K mg base cG 2 (a.f 79) (a.d 79) ["self","player"] (AN a):=by
 refine T.ab.vd.F.ok tG (fun vs H Q E h=>?_) (fun cdv A outer s H vs Q E hr h=>?_)
 ·obtain⟨t,G,g,i,pl,rfl,_⟩:=h;rfl
 ·obtain⟨t,G,g,i,pl,rfl,I,gd,hc,hp,k0⟩:=h;refine⟨_,(ae (aX (i:=2) tG.nd rfl (Or.inl rfl) (az (pv 0) T.ab.cl T.ab.bb (bj T) (hr.mono (by decide)) T.ab.bp.b .nil au )) (ae (bN (PW.pt (ny (dR (az (pv 2) T.Innings.cl T.Innings.bQ (c5 T) (hr.mono (by decide)) T.Innings.cx.b .nil au )) (qJ (dR (aU (pv 2) T.Innings.cl T.Innings.dc (oO T) (hr.mono (by decide)) T.Innings.jf.b au (aK (pv 1) ah)))))) (ag (ay pI)) aY) (ag (ay (IK (bP (bx (af (pv 0) rfl) aj)) (eE (bP (yo (aU (pv 2) T.Innings.cl T.Innings.hJ (yl T) (hr.mono (by decide)) T.Innings.pH.b au (aK (pv 1) ah)) (af (pv 0) rfl))))))))),?_⟩;refine⟨_,rfl,_,_,_,rfl,I.ob,aO,t,G,g,rfl,I,(fun z=>by rw[hc]at z;cases z),fun j ps As A hj e eA el J=>?_⟩;rw[hc]at hj;cases hj;have hi:i∈g.played:=by rw[e];simp
  obtain⟨f,hf⟩:∃ f,i.aI[pl]?=some f:=⟨_,List.getElem?_eq_getElem (by rw[(gd.ok i hi).aI];omega)⟩
  unfold aq.ab.qp at k0;rw[hf]at k0;refine⟨_,rfl,_,_,_,rfl,J.ob,cD,_,_,_,_,rfl,J,_,rfl,ts ?k1 fun k=>⟨_,rfl,_,_,_,rfl,J.ob,nF,_,rfl,_,_,_,_,_,rfl,J,_,rfl,k⟩⟩;rw[N.tE (gd.ok i hi) (gd.ex i hi),N.Fn];refine eM (fun h=>?_) (fun h=>?_)
  ·rw[if_pos (by simpa using h)]at k0;exact k0 H (a6.refl H)
  ·rw[if_neg (by simpa using h)]at k0;refine⟨_,rfl,_,_,_,_,_,rfl,I.ob,T.ab.cl,T.ab.jd,oM,_,_,rfl,rfl,_,rfl,?_⟩;by_cases hm:g.rules.most=0
   ·have k1:=k0 H (a6.refl H);simp only[hm,decide_true,Bool.true_or]at k1;exact bH (decide_eq_true (by rw[hm];rfl)) k1
   ·refine cw (decide_eq_false (by omega)) ⟨_,rfl,_,_,_,rfl,J.ob,vx,_,rfl,_,_,_,_,_,rfl,J,gd.AE i hi,fun H1 s1=>?_⟩;have I1:=I.same s1;have k1:=k0 H1 s1;rw[N.Ku (gd.ex i hi) hf];simp only[hm,decide_false,Bool.false_or]at k1;rw[←dT]at k1;exact⟨_,rfl,_,_,_,_,_,rfl,I1.ob,T.ab.cl,T.ab.jd,oM,_,_,rfl,rfl,k1⟩
inductive xU(a:Ad)(vs:List V)(H:Hp)(Q:VK):Prop
 |mk(t:Tag)(G:bE)(g:aq.ab)(_:vs=[.ref G.p])(_:aL a H t G g)(_:Gd g)(_:∀ H',a6 H H'→Q (.bl g.zK) H')
def w9(a:Ad):Sp:=fun vs H Q _=>xU a vs H Q
theorem wc:ao ["self"] ["self"] (ai jF):=⟨rfl,rfl,rfl,by decide +kernel,rfl,by decide +kernel,by decide +kernel⟩
theorem w4(T:Txt K mg a):aZ P w K mg base cG 6 (a.f 87) (a.d 87) ["self"] (w9 a):=by
 refine T.ab.oH.F.ok wc (fun vs H Q E h=>?_) (fun cdv A outer s H vs Q E hr h=>?_)
 ·obtain⟨t,G,g,rfl,_⟩:=h;rfl
 ·obtain⟨t,G,g,rfl,I,gd,k0⟩:=h;refine⟨_,(ag (ay (du (bP (kT (ba aP rfl T.fn.c8 PySem.boot_len (aK (af (pv 0) rfl) ah)) aj)) (du (bP (bx (af (pv 0) rfl) aj)) (eE (Bf (az (pv 0) T.ab.cl T.ab.eZ (j4 T) (hr.mono (by decide)) T.ab.jk.b .nil au ))))))),?_⟩;have hlen:((G.As.map (·.p)).map V.ref).length=g.played.length:=by rw[List.length_map,List.length_map,I.len]
  unfold aq.ab.zK at k0;refine⟨_,rfl,_,_,_,_,_,rfl,I.ob,T.ab.cl,T.ab.bF,aV,_,_,rfl,.inl (bD.of I.played),_,_,rfl,rfl,_,rfl,?_⟩;rw[hlen];by_cases h0:0<g.played.length
  ·simp only[h0,decide_true,Bool.true_and]at k0;refine bH (decide_eq_true (by omega)) ⟨_,rfl,_,_,_,_,_,rfl,I.ob,T.ab.cl,T.ab.b6,bJ,_,_,rfl,rfl,_,rfl,?_⟩;by_cases h1:g.rules.overs=0
   ·simp only[h1,decide_true,Bool.true_and]at k0;exact bH (decide_eq_true (by rw[h1];rfl)) ⟨_,rfl,_,_,_,rfl,I.ob,iM,t,G,g,rfl,I,gd,fun H1 s1=>⟨_,rfl,k0 H1 s1⟩⟩
   ·have k1:=k0 H (a6.refl H);simp only[h1,decide_false,Bool.false_and]at k1;exact cw (decide_eq_false (by omega)) k1
  ·have k1:=k0 H (a6.refl H);simp only[h0,decide_false,Bool.false_and]at k1;exact cw (decide_eq_false (by omega)) k1
inductive xq(a:Ad)(vs:List V)(H:Hp)(Q:VK):Prop
 |mk(t:Tag)(G:bE)(g:aq.ab)(_:vs=[.ref G.p])(_:aL a H t G g)(_:Gd g)(_:∀ H',a6 H H'→Q (.bl g.mM) H')
def vL(a:Ad):Sp:=fun vs H Q _=>xq a vs H Q
theorem vG:ao ["self"] ["self"] (ai je):=⟨rfl,rfl,rfl,by decide +kernel,rfl,by decide +kernel,by decide +kernel⟩
theorem vF(T:Txt K mg a):aZ P w K mg base cG 4 (a.f 85) (a.d 85) ["self"] (vL a):=by
 refine T.ab.nh.F.ok vG (fun vs H Q E h=>?_) (fun cdv A outer s H vs Q E hr h=>?_)
 ·obtain⟨t,G,g,rfl,_⟩:=h;rfl
 ·obtain⟨t,G,g,rfl,I,gd,k0⟩:=h;refine⟨_,(ae (bN (PW.pt (ny (aT (nK (af (pv 0) rfl) aj)) (ny (aT (nK (ba aP rfl T.fn.c8 PySem.boot_len (aK (af (pv 0) rfl) ah)) aj)) (qJ (aT (rh (az (pv 0) T.ab.cl T.ab.bb (bj T) (hr.mono (by decide)) T.ab.bp.b .nil au ))))))) (ag (ay pI)) aY) (ae (bN (PW.pt (ny (dR (af (pv 0) rfl)) (ny (dR (af (pv 0) rfl)) (qJ (aT (bx (af (pv 0) rfl) aj)))))) (ag (ay pI)) aY) (ag (ay (bP (m9 (aU (pv 0) T.ab.cl T.ab.e8 (j8 T) (hr.mono (by decide)) T.ab.iZ.b au (aK aj ah)) (af (pv 0) rfl))))))),?_⟩;have hlen:((G.As.map (·.p)).map V.ref).length=g.played.length:=by rw[List.length_map,List.length_map,I.len]
  unfold aq.ab.mM at k0;refine⟨_,rfl,_,_,_,_,_,rfl,I.ob,T.ab.cl,T.ab.jj,oI,_,_,rfl,rfl,_,rfl,?_⟩;by_cases h1:g.rules.sides=2
  ·refine cw (by rw[h1];rfl) ⟨_,rfl,_,_,_,_,_,rfl,I.ob,T.ab.cl,T.ab.bF,aV,_,_,rfl,.inl (bD.of I.played),_,_,rfl,rfl,_,rfl,?_⟩;rw[hlen];by_cases h2:g.played.length=2
   ·refine cw (by rw[h2];rfl) ⟨_,rfl,_,_,_,rfl,I.ob,aO,t,G,g,rfl,I,fun hc=>⟨_,rfl,lZ ?_⟩,fun i ps As A hc e eA el J=>⟨_,rfl,?_⟩⟩
    ·have c1:¬(g.rules.sides≠2∨g.played.length≠2∨g.current.isSome=true):=by rw[hc];simp[h1,h2]
     rw[if_neg c1]at k0;refine⟨_,rfl,_,_,_,_,_,rfl,I.ob,T.ab.cl,T.ab.eU,kM,_,rfl,ts ?k1 fun k=>⟨_,rfl,_,_,_,_,_,rfl,I.ob,T.ab.cl,T.ab.dM,iR,_,rfl,ts k fun k=>⟨_,rfl,_,_,_,_,_,rfl,I.ob,T.ab.cl,T.ab.jT,pO,_,_,rfl,rfl,_,rfl,k⟩⟩⟩;refine eM (fun h=>?_) (fun h=>?_)
     ·rw[if_pos (by simp at h;exact h)]at k0;exact k0 H (a6.refl H)
     ·rw[if_neg (by simp at h;simpa using h)]at k0;refine⟨_,rfl,_,_,_,rfl,I.ob,iI,t,G,g,0,rfl,I,gd.len,(by decide),fun H1 s1=>?_⟩;have I1:=I.same s1;exact⟨_,rfl,_,_,_,_,_,rfl,I1.ob,T.ab.cl,T.ab.jT,pO,_,_,rfl,rfl,k0 H1 s1⟩
    ·rw[if_pos (by rw[hc];simp)]at k0;exact bH (by rw[uM];rfl) (k0 H (a6.refl H))
   ·rw[if_pos (.inr (.inl h2))]at k0;exact bH (by have hz:¬((g.played.length:Int)=2):=(by omega);simp[hz]) (vD (k0 H (a6.refl H)))
  ·rw[if_pos (.inl h1)]at k0;exact bH (by have hz:¬((g.rules.sides:Int)=2):=(by omega);simp[hz]) (vD (k0 H (a6.refl H)))
end
end Sb
namespace Sb
open PySem L2
open Sh11 (Ball)
section
variable{P:Program}{w:World}{K:PySem.W.Frag}{mg:Str→Option Value}{base:Heap}{a:Ad}
theorem Pk{X:Cx}:Rh X (fun o i H Q=>∃ p xs j v,o=.ref p∧i=.int ((j:Nat):Int)∧j<1000∧bD X.K H p xs∧xs[j]?=some v∧Q v H):=by
 intro pins s σ H o i ov iv Q I ro ri h;obtain⟨p,xs,j,v,rfl,rfl,hj,hq,hv,q⟩:=h;cases ro;obtain⟨t,rfl⟩:=ri;obtain⟨its,r,pl,hz⟩:=I.list hq;obtain⟨u,hu,ru⟩:=r.get hv;exact wpAny_getItem_list pl.isList (by omega) (by omega) (by rw[Int.toNat_natCast];simpa using hu) ⟨v,H,I,ru,q⟩
theorem aL.stepK{H H':Hp}{t t':Tag}{G:bE}{g:aq.ab}(I:aL a H t G g){k:Nat}(hk:g.played.length≤k)(s:Step (inR k) H t H' t'):aL a H' t' G g:=by
 have kp:∀{b:Addr}{o:HO}{j:Nat},H b=some o→t b=j→j<8→H' b=some o∧t' b=j:=fun{b o j} h ht hj=>⟨s.keep b o h (by rw[ht];unfold inR;omega),(s.tag b (bU h)).trans ht⟩
 have k1:=kp I.ob I.nG (by omega);have k2:=kp I.played I.Nc (by omega);have k3:=kp I.owed I.M5 (by omega)
 exact⟨k1.1,k1.2,k2.1,k2.2,k3.1,k3.2,I.len,fun j A i hA hi=>(I.iT j A i hA hi).step s sx fun m hm hm'=>by
  have:=(List.getElem?_eq_some_iff.mp hi).1;unfold inR at hm hm'
  omega⟩
inductive DN(a:Ad)(vs:List V)(H:Hp)(Q:VK):Prop
 |mk(t:Tag)(G:bE)(g:aq.ab)(_:vs=[.ref G.p])(_:aL a H t G g)(_:Gd g)(_:0<g.rules.sides)(_:∀ H' D,a6 H H'→H D=none→H' D=some (.lst ((N.qw g).map V.int))→Q (.ref D) H')
def Cy(a:Ad):Sp:=fun vs H Q _=>DN a vs H Q
theorem j6:ao ["self","last","lead","way"] ["self"] (ai qj):=⟨rfl,rfl,rfl,by decide +kernel,rfl,by decide +kernel,by decide +kernel⟩
theorem C0(T:Txt K mg a):aZ P w K mg base cG 6 (a.f 75) (a.d 75) ["self"] (Cy a):=by
 refine T.ab.wY.F.ok j6 (fun vs H Q E h=>?_) (fun cdv A outer s H vs Q E hr h=>?_)
 ·obtain⟨t,G,g,rfl,_⟩:=h;rfl
 ·obtain⟨t,G,g,rfl,I,gd,hsd,k0⟩:=h;refine⟨_,(ae (bN (Es (dR (az (pv 0) T.ab.cl T.ab.eZ (j4 T) (hr.mono (by decide)) T.ab.jk.b .nil au ))) (ag (ay (bO (aK (aN rfl T.fn.xf) (aK aj ah))))) aY) (ae (bN (dR (af (pv 0) rfl)) (ag (ay (bO (aK (aN rfl T.fn.qt) (aK aj ah))))) aY) (ae (aX (i:=1) j6.nd rfl (Or.inl rfl) (aM aD (af (pv 0) rfl) (ly g5 aj) (fun _ _=>rfl))) (ae (aX (i:=2) j6.nd rfl (Or.inl rfl) (aU (pv 0) T.ab.cl T.ab.e8 (j8 T) (hr.mono (by decide)) T.ab.iZ.b au (aK (af (pv 1) rfl) ah))) (ae (bN (aT (bx (pv 2) aj)) (ag (ay (bO (aK (aN rfl T.fn.Bs) (aK aj ah))))) aY) (ae (bN (aT (kT (pv 2) aj)) (ag (ay (bO (aK (bM cN (aN rfl T.fn.mw) (af (pv 1) rfl)) (aK (bM sg (aN rfl T.fn.Bu) (az (pv 1) T.Innings.cl T.Innings.cy (gE T) (hr.mono (by decide)) T.Innings.eJ.b .nil au )) ah))))) aY) (ae (aX (i:=3) j6.nd rfl (Or.inl rfl) (dk (dR (az (pv 0) T.ab.cl T.ab.dX (kI T) (hr.mono (by decide)) T.ab.iO.b .nil au )) (aN rfl T.fn.rX) (aN rfl T.fn.jP))) (ag (ay (bO (aK (bM sg (bM cN (pv 3) aj) (af (pv 1) rfl)) (aK (ly g5 (pv 2)) ah)))))))))))),?_⟩;unfold N.qw at k0;refine⟨_,rfl,_,_,_,rfl,I.ob,iM,t,G,g,rfl,I,gd,fun H1 s1=>⟨_,rfl,?_⟩⟩;have I1:=I.same s1
  cases hv:g.bV with
  |false=>
   rw[if_pos hv]at k0;exact vD ⟨(by show 2≤sizeLine;decide),fun D hD=>k0 _ D (s1.trans (aA hD)) (s1.free hD) aa⟩
  |true=>
   rw[if_neg (by rw[hv];decide)]at k0;refine lZ ⟨_,rfl,_,_,_,_,_,rfl,I1.ob,T.ab.cl,T.ab.dM,iR,_,rfl,?_⟩
   cases hu:g.up with
   |true=>
    rw[if_pos hu]at k0;exact vD ⟨(by show 2≤sizeLine;decide),fun D hD=>k0 _ D (s1.trans (aA hD)) (s1.free hD) aa⟩
   |false=>
    rw[if_neg (by rw[hu];decide)]at k0;refine lZ ?_;rcases aq.a8 g.played with e|⟨ps,i,e⟩
    ·exfalso
     unfold aq.ab.bV aq.ab.bZ aq.ab.fW at hv;rw[hu,e]at hv;simp only[Bool.false_eq_true,if_false]at hv
     split at hv
     ·cases hv
     ·simp at hv;omega
    ·obtain⟨As,A,eA,el,J,hat⟩:=I1.Ny e;have hi:i∈g.played:=by rw[e];simp
     have gl:g.played.getLast?=some i:=by rw[e];simp
     rw[gl]at k0;simp only[]at k0;refine⟨_,rfl,_,_,_,_,_,rfl,I1.ob,T.ab.cl,T.ab.bF,aV,_,rfl,_,_,_,_,rfl,rfl,bD.of I1.played,hat,?_⟩;refine⟨_,rfl,_,_,_,rfl,I1.ob,iI,_,rfl,_,_,_,_,_,rfl,J.ob,T.Innings.cl,T.Innings.pF,dW,t,G,g,i.side,rfl,I1,gd.len,gd.side i hi,fun H2 s2=>?_⟩;have s12:=s1.trans s2;have I2:=I1.same s2;have J2:=J.same s2;refine⟨_,rfl,_,_,rfl,rfl,_,rfl,?_⟩;by_cases h0:g.lead i.side=0
     ·rw[if_pos h0]at k0;exact bH (decide_eq_true h0) ⟨(by show 2≤sizeLine;decide),fun D hD=>k0 _ D (s12.trans (aA hD)) (s12.free hD) aa⟩
     ·rw[if_neg h0]at k0;refine cw (decide_eq_false h0) ⟨_,rfl,_,_,rfl,rfl,_,rfl,?_⟩;by_cases h1:0<g.lead i.side
      ·rw[if_pos h1]at k0;exact bH (decide_eq_true h1) ⟨_,rfl,_,_,_,_,_,rfl,J2.ob,T.Innings.cl,T.Innings.pF,dW,_,_,rfl,rfl,_,rfl,_,_,_,rfl,J2.ob,fF,_,_,_,_,rfl,J2,_,_,rfl,rfl,(by show 2≤sizeLine;decide),fun D hD=>k0 _ D (s12.trans (aA hD)) (s12.free hD) aa⟩
      ·rw[if_neg h1]at k0;refine cw (decide_eq_false h1) ⟨_,rfl,_,_,_,rfl,I2.ob,i9,t,G,g,rfl,I2,_,rfl,QX ?_⟩;exact⟨_,rfl,_,_,rfl,rfl,_,rfl,_,_,_,_,_,rfl,J2.ob,T.Innings.cl,T.Innings.pF,dW,_,_,rfl,rfl,_,rfl,_,rfl,(by show 2≤sizeLine;decide),fun D hD=>k0 _ D (s12.trans (aA hD)) (s12.free hD) aa⟩
inductive Fd(a:Ad)(vs:List V)(H:Hp)(Q:VK):Prop
 |mk(t:Tag)(G:bE)(g:aq.ab)(i:aq.ak)(pb db:Addr)(b:Ball)(_:vs=[.ref G.p,.ref pb])(_:aL a H t G g)(_:Fr H t)(_:Gd g)(_:g.current=some i)(_:bW a H pb db b)(_:t pb=0)(_:Ready (N.proj i) b)(_:i.bowler≠11)(_:Gd (g.cb (aq.ak.deliver b)))(_:tD a H t G (g.cb (aq.ak.deliver b)).aF (Q .non))
def CN(a:Ad):Sp:=fun vs H Q _=>Fd a vs H Q
theorem Cu:ao ["self","ball"] ["self","ball"] (ai pY):=⟨rfl,rfl,rfl,by decide +kernel,rfl,by decide +kernel,by decide +kernel⟩
theorem Cp(T:Txt K mg a):aZ P w K mg base cG 8 (a.f 80) (a.d 80) ["self","ball"] (CN a):=by
 refine T.ab.wD.F.ok Cu (fun vs H Q E h=>?_) (fun cdv A outer s H vs Q E hr h=>?_)
 ·obtain⟨t,G,g,i,pb,db,b,rfl,_⟩:=h;rfl
 ·obtain⟨t,G,g,i,pb,db,b,rfl,I,fr,gd,hc,hb,tb,rd,hw,gd2,k0⟩:=h;refine⟨_,(ae (br (aU (az (pv 0) T.ab.cl T.ab.bb (bj T) (hr.mono (by decide)) T.ab.bp.b .nil au ) T.Innings.cl T.Innings.iH (zl T) (hr.mono (by decide)) T.Innings.rf.b au (aK (pv 1) ah))) (ag (br (az (pv 0) T.ab.cl T.ab.cE (fT T) (hr.mono (by decide)) T.ab.eu.b .nil au )))),?_⟩;refine⟨_,rfl,_,_,_,rfl,I.ob,aO,t,G,g,rfl,I,(fun z=>by rw[hc]at z;cases z),fun j ps As A hj e eA el J=>?_⟩;rw[hc]at hj;cases hj;have hi:i∈g.played:=by rw[e];simp
  refine⟨_,_,_,rfl,J.ob,vP,_,rfl,t,_,A,_,_,_,b,rfl,J,fr,gd.AE i hi,hb,tb,rd,fun H1 t1 A1 eA1 st1 J1=>?_⟩;rw[←N.zL (gd.ok i hi) (gd.ex i hi) rd.bo hw]at J1;obtain⟨I1,st2,ex⟩:=I.Bt e eA el st1 eA1 J1;rw[aq.ab.aG e]at k0 gd2;refine⟨_,rfl,_,_,_,rfl,I1.ob,cB,t1,{ G with As:=As++[A1] },_,rfl,I1,gd2,fun H2 t2 G2 e2 st3 ex2 I2=>?_⟩;exact k0.go I2 (st2.trans st3) (ex.trans ex2) e2
inductive F4(a:Ad)(vs:List V)(H:Hp)(Q:VK):Prop
 |mk(t:Tag)(G:bE)(g:aq.ab)(i:aq.ak)(x:Sh11.Bat)(en hu:Nat)(_:vs=[.ref G.p,.int en,.int hu])(_:aL a H t G g)(_:Fr H t)(_:Gd g)(_:g.current=some i)(_:en≤1)(_:i.bats[if en=0 then i.e0 else i.e1]?=some x)(_:Gd (g.cb (aq.ak.retire en hu)))(_:tD a H t G (g.cb (aq.ak.retire en hu)).aF (Q .non))
def Ez(a:Ad):Sp:=fun vs H Q _=>F4 a vs H Q
theorem Eu:ao ["self","end","hurt"] ["self","end","hurt"] (ai rZ):=⟨rfl,rfl,rfl,by decide +kernel,rfl,by decide +kernel,by decide +kernel⟩
theorem EH(T:Txt K mg a):aZ P w K mg base cG 6 (a.f 81) (a.d 81) ["self","end","hurt"] (Ez a):=by
 refine T.ab.yu.F.ok Eu (fun vs H Q E h=>?_) (fun cdv A outer s H vs Q E hr h=>?_)
 ·obtain⟨t,G,g,i,x,en,hu,rfl,_⟩:=h;rfl
 ·obtain⟨t,G,g,i,x,en,hu,rfl,I,fr,gd,hc,he,hx,gd2,k0⟩:=h;refine⟨_,(ae (br (aU (az (pv 0) T.ab.cl T.ab.bb (bj T) (hr.mono (by decide)) T.ab.bp.b .nil au ) T.Innings.cl T.Innings.jB (zV T) (hr.mono (by decide)) T.Innings.sY.b au (aK (pv 1) (aK (pv 2) ah)))) (ag (br (az (pv 0) T.ab.cl T.ab.cE (fT T) (hr.mono (by decide)) T.ab.eu.b .nil au )))),?_⟩;refine⟨_,rfl,_,_,_,rfl,I.ob,aO,t,G,g,rfl,I,(fun z=>by rw[hc]at z;cases z),fun j ps As A hj e eA el J=>?_⟩;rw[hc]at hj;cases hj;have hi:i∈g.played:=by rw[e];simp
  refine⟨_,_,_,rfl,J.ob,yh,_,rfl,_,rfl,t,_,A,_,x,en,hu,rfl,J,fr,gd.AE i hi,he,hx,fun H1 t1 A1 eA1 st1 J1=>?_⟩;rw[←N.B9]at J1;obtain⟨I1,st2,ex⟩:=I.Bt e eA el st1 eA1 J1;rw[aq.ab.aG e]at k0 gd2;refine⟨_,rfl,_,_,_,rfl,I1.ob,cB,t1,{ G with As:=As++[A1] },_,rfl,I1,gd2,fun H2 t2 G2 e2 st3 ex2 I2=>?_⟩;exact k0.go I2 (st2.trans st3) (ex.trans ex2) e2
theorem DT:∀{s:Nat}{As:List cO}{pl:List aq.ak},As.length=pl.length→(sel s As pl=[]∧aq.ab.lastOf s pl=none)∨∃ qs q k,sel s As pl=qs++[q]∧aq.ab.lastOf s pl=some k∧As[k]?=some q.1∧pl[k]?=some q.2
 |s,[],[],_=>.inl ⟨rfl,rfl⟩
 |_,[],_::_,h=>by simp at h
 |_,_::_,[],h=>by simp at h
 |s,A::As,i::pl,h=>by
  have e1:sel s (A::As) (i::pl)=if i.side=s then(A,i)::sel s As pl else sel s As pl:=by
   unfold sel;rw[List.zip_cons_cons,List.filter_cons];by_cases e:i.side=s<;>simp[e]
  rcases DT (s:=s) (As:=As) (pl:=pl) (by simpa using h)with⟨h1,h2⟩|⟨qs,q,k,h1,h2,h3,h4⟩
  ·by_cases e:i.side=s
   ·right
    refine⟨[],(A,i),0,by rw[e1,if_pos e,h1];rfl,?_,rfl,rfl⟩;unfold aq.ab.lastOf;rw[h2];simp[e]
   ·left
    refine⟨by rw[e1,if_neg e,h1],?_⟩;unfold aq.ab.lastOf;rw[h2];simp[e]
  ·right
   have hl:aq.ab.lastOf s (i::pl)=some (k+1):=by
    unfold aq.ab.lastOf;rw[h2]
   by_cases e:i.side=s
   ·exact⟨(A,i)::qs,q,k+1,by rw[e1,if_pos e,h1];rfl,hl,by simpa using h3,by simpa using h4⟩
   ·exact⟨qs,q,k+1,by rw[e1,if_neg e,h1],hl,by simpa using h3,by simpa using h4⟩
inductive yD(a:Ad)(vs:List V)(H:Hp)(Q:VK):Prop
 |mk(t:Tag)(G:bE)(g:aq.ab)(s:Nat)(_:vs=[.ref G.p,.int s])(_:aL a H t G g)(_:Fr H t)(_:Gd g)(_:s≤1)(_:(∀ k,Gd { g with played:=g.played.modify k (aq.ak.bK 5) }))(_:tD a H t G (g.kj s) (Q .non))
def ye(a:Ad):Sp:=fun vs H Q _=>yD a vs H Q
theorem oN:ao ["self","side","batted"] ["self","side"] (ai kR):=⟨rfl,rfl,rfl,by decide +kernel,rfl,by decide +kernel,by decide +kernel⟩
theorem xS(T:Txt K mg a):aZ P w K mg base cG 5 (a.f 82) (a.d 82) ["self","side"] (ye a):=by
 refine T.ab.qg.F.ok oN (fun vs H Q E h=>?_) (fun cdv A outer s H vs Q E hr h=>?_)
 ·obtain⟨t,G,g,sd,rfl,_⟩:=h;rfl
 ·obtain⟨t,G,g,sd,rfl,I,fr,gd,hs,gd2,k0⟩:=h;refine⟨_,(ae (aX (i:=2) oN.nd rfl (Or.inl rfl) (aU (pv 0) T.ab.cl T.ab.df (gN T) (hr.mono (by decide)) T.ab.f7.b au (aK (pv 1) ah))) (ae (bN (aT (bx (ba aP rfl T.fn.c8 PySem.boot_len (aK (pv 2) ah)) aj)) (ag (OK (af (pv 0) rfl) (pv 1) Pk (aN rfl T.fn.lB) Qy set_list)) (ag (br (aU (aM aD (pv 2) (ly g5 aj) (fun _ _=>rfl)) T.Innings.cl T.Innings.cX (jR T) (hr.mono (by decide)) T.Innings.gr.b au (aK (aN rfl T.fn.lB) ah))))) (ag (br (az (pv 0) T.ab.cl T.ab.cE (fT T) (hr.mono (by decide)) T.ab.eu.b .nil au ))))),?_⟩;refine⟨_,rfl,_,_,_,rfl,I.ob,fQ,_,rfl,t,G,g,sd,rfl,I,gd.len,fun D hD=>?_⟩;have s1:=aA (o:=.lst (((sel sd G.As g.played).map (·.1.p)).map V.ref)) hD;have I1:=I.same s1;have fr1:=a6.fr s1 fr;unfold aq.ab.kj at k0;refine⟨_,rfl,_,_,rfl,.inl (bD.of aa),_,_,rfl,rfl,_,rfl,?_⟩;rcases DT (s:=sd) I.len with⟨h1,h2⟩|⟨qs,q,k,h1,h2,h3,h4⟩
  ·rw[h2]at k0;simp only[]at k0;refine bH (by rw[h1];rfl) ?_;have ho:(if sd=0 then g.owed.1 else g.owed.2)=g.eO sd:=rfl;refine⟨_,rfl,_,_,_,_,_,rfl,I1.ob,T.ab.cl,T.ab.wz,qV,_,rfl,_,_,sd,.int (g.eO sd:Nat),rfl,rfl,(by omega),bD.of I1.owed,?_,_,_,rfl,rfl,_,_,_,sd,rfl,rfl,I1.owed,js (by show sd<2;omega),?_⟩
   ·have:sd=0∨sd=1:=by omega
    rcases this with z|z<;>rw[z]<;>rfl
   ·have this:sd=0∨sd=1:=by omega
    rcases this with z|z
    ·subst z;obtain⟨I2,st2⟩:=I1.eQ (g.owed.1+5) g.owed.2;exact⟨_,rfl,_,_,_,rfl,I2.ob,cB,t,G,_,rfl,I2,⟨gd.ok,gd.ex,gd.AE,gd.more,gd.side,gd.len⟩,fun H2 t2 G2 e2 st3 ex2 I2=>k0.go I2 (((Step.same s1).trans st2).trans st3) ex2 e2⟩
    ·subst z;obtain⟨I2,st2⟩:=I1.eQ g.owed.1 (g.owed.2+5);exact⟨_,rfl,_,_,_,rfl,I2.ob,cB,t,G,_,rfl,I2,⟨gd.ok,gd.ex,gd.AE,gd.more,gd.side,gd.len⟩,fun H2 t2 G2 e2 st3 ex2 I2=>k0.go I2 (((Step.same s1).trans st2).trans st3) ex2 e2⟩
  ·rw[h2]at k0;simp only[]at k0;have J:=I1.iT k q.1 q.2 h3 h4;have hat:IA (((sel sd G.As g.played).map (·.1.p)).map V.ref) (-1)=some (V.ref q.1.p):=by
    rw[h1,List.map_append,List.map_append];exact Ak _ _
   refine cw (decide_eq_false (by rw[h1];simp;omega)) ⟨_,rfl,_,rfl,_,_,_,_,rfl,rfl,bD.of aa,hat,_,_,_,rfl,J.ob,jl,t,k,q.1,_,5,rfl,J,fr1,fun H2 t2 A2 eA2 st2 J2=>?_⟩;rw[←N.Hh]at J2;obtain⟨I2,st3,ex⟩:=I1.QH h3 st2 eA2 J2;have em:g.played.set k (q.2.bK 5)=g.played.modify k (aq.ak.bK 5):=(kh h4).symm;rw[em]at I2;exact⟨_,rfl,_,_,_,rfl,I2.ob,cB,t2,{ G with As:=G.As.set k A2 },_,rfl,I2,gd2 k,fun H3 t3 G3 e3 st4 ex2 I3=>k0.go I3 (((Step.same s1).trans st3).trans st4) (ex.trans ex2) e3⟩
inductive wx(a:Ad)(vs:List V)(H:Hp)(Q:VK):Prop
 |mk(t:Tag)(G:bE)(g:aq.ab)(s o:Nat)(_:vs=[.ref G.p,.int s,.int o])(_:aL a H t G g)(_:Fr H t)(_:s≤10)(_:o≤10)(_:s≠o)(_:g.aS≤1)(_:g.played.length≤4)(_:Gd { g.eQ g.aS 0 with played:=g.played++[aq.ak.opened g.aS g.rules.balls (g.eO g.aS) s o] })(_:tD a H t G (g.jn s o) (Q .non))
def vy(a:Ad):Sp:=fun vs H Q _=>wx a vs H Q
theorem iE:ao ["self","striker","other","side","innings"] ["self","striker","other"] (ai iX):=⟨rfl,rfl,rfl,by decide +kernel,rfl,by decide +kernel,by decide +kernel⟩
theorem vo(T:Txt K mg a):aZ P w K mg base cG 7 (a.f 77) (a.d 77) ["self","striker","other"] (vy a):=by
 refine T.ab.nB.F.ok iE (fun vs H Q E h=>?_) (fun cdv A outer s H vs Q E hr h=>?_)
 ·obtain⟨t,G,g,s0,o0,rfl,_⟩:=h;rfl
 ·obtain⟨t,G,g,s0,o0,rfl,I,fr,hs,ho,hn,h1,h4,gd2,k0⟩:=h;refine⟨_,(ae (aX (i:=3) iE.nd rfl (Or.inl rfl) (az (pv 0) T.ab.cl T.ab.jy (Ac T) (hr.mono (by decide)) T.ab.sU.b .nil au )) (ae (aX (i:=4) iE.nd rfl (Or.inl rfl) (dh T.Innings.vg (Cn T) (hr.mono (by decide)) rfl T.Innings.AF T.Innings.wM.b au (aK (pv 3) (aK (af (pv 0) rfl) (aK (pv 1) (aK (pv 2) ah)))))) (ae (br (aU (pv 4) T.Innings.cl T.Innings.cX (jR T) (hr.mono (by decide)) T.Innings.gr.b au (aK (aM aD (af (pv 0) rfl) (pv 3) (fun _ _=>rfl)) ah))) (ae (nP aj (oz (af (pv 0) rfl) (pv 3) set_list)) (ae (br (Am PySem.F.plainAttrs_list PySem.F.slot_list_append PySem.F.type_list_append mI (af (pv 0) rfl) (aK (pv 4) ah))) (ag (br (az (pv 0) T.ab.cl T.ab.cE (fT T) (hr.mono (by decide)) T.ab.eu.b .nil au )))))))),?_⟩;refine⟨_,rfl,_,_,_,rfl,I.ob,xY,t,G,g,rfl,I,?_⟩;refine⟨_,rfl,_,rfl,_,_,_,_,_,rfl,I.ob,T.ab.cl,T.ab.dO,yR,_,rfl,_,rfl,fun x dx hx hdx hne=>?_⟩;have sm:a6 H (upd (upd H dx (.own x)) x (.ins (a.c 6) dx [])):=fun b u h=>by
   rw[ax (aQ h hx),ax (aQ h hdx)];exact h
  refine⟨t,g.played.length,x,dx,g.aS,g.rules.balls,s0,o0,rfl,aa,a6.fr sm fr,hs,ho,fun H1 t1 A1 eA1 J1 kp tg lv fr1=>⟨rfl,?_⟩⟩
  have st1:Step (inR g.played.length) H t H1 t1:=⟨fun b u h hr=>kp b u (sm _ _ h) (aQ h hx) hr,fun b h=>by
    cases q:H b with
    |none=>exact absurd q h
    |some u=>exact tg b (bU (sm _ _ q)) (aQ q hx),fun b h=>by
    cases q:H b with
    |none=>exact absurd q h
    |some u=>exact lv b (bU (sm _ _ q)),fun _=>fr1⟩
  have I1:=I.stepK (Nat.le_refl _) st1;have hat:IA [V.int (g.owed.1:Int),V.int (g.owed.2:Int)] ((g.aS:Nat):Int)=some (.int ((g.eO g.aS:Nat):Int)):=KL h1;subst eA1;refine⟨_,rfl,_,_,_,rfl,J1.ob,jl,_,rfl,_,_,_,_,_,rfl,I1.ob,T.ab.cl,T.ab.wz,qV,_,rfl,_,_,_,_,rfl,rfl,bD.of I1.owed,hat,t1,_,A1,_,g.eO g.aS,rfl,J1,fr1,fun H2 t2 A2 eA2 st2 J2=>?_⟩;rw[←N.Jm hs ho hn]at J2;have I2:=I1.stepK (Nat.le_refl _) st2;refine⟨_,rfl,_,_,_,_,_,rfl,I2.ob,T.ab.cl,T.ab.wz,qV,_,rfl,_,_,_,_,rfl,rfl,I2.owed,js (j:=g.aS) (by show g.aS<2;omega),?_⟩;have hso:g.eQ g.aS 0={ g with owed:=if g.aS=0 then(0,g.owed.2)else(g.owed.1,0) }:=rfl;have key:∃ H3,Step gR H2 t2 H3 t2∧H3=upd H2 G.owed (.lst ([V.int (g.owed.1:Int),V.int (g.owed.2:Int)].set g.aS (.int 0)))∧aL a H3 t2 G (g.eQ g.aS 0):=by
   have:g.aS=0∨g.aS=1:=by omega
   rcases this with z|z
   ·obtain⟨I3,st3⟩:=I2.eQ 0 g.owed.2;refine⟨_,st3,by rw[z];rfl,?_⟩;rw[hso,if_pos z];exact I3
   ·obtain⟨I3,st3⟩:=I2.eQ g.owed.1 0;refine⟨_,st3,by rw[z];rfl,?_⟩;rw[hso,if_neg (by omega)];exact I3
  obtain⟨H3,st3,e3,I3⟩:=key;have J3:bf a H3 t2 g.played.length A2 (N.proj (aq.ak.opened g.aS g.rules.balls (g.eO g.aS) s0 o0)):=by
   have s6:Step (fun m=>m=6) H2 t2 H3 t2:=by rw[e3];exact Step.upd I2.owed I2.M5
   exact J2.step s6 (by decide) fun m hm h=>by unfold inR at hm;omega
  show RG _ _ _ _ (upd H2 G.owed (.lst ([V.int (g.owed.1:Int),V.int (g.owed.2:Int)].set g.aS (.int 0))));rw[←e3];refine⟨_,rfl,_,_,_,_,_,rfl,I3.ob,T.ab.cl,T.ab.bF,aV,.inl ⟨rfl,_,bD.of I3.played⟩,_,rfl,_,_,_,rfl,rfl,I3.played,pA (by rw[List.length_map,List.length_map,I3.len];show g.played.length≤1000;omega),?_⟩;obtain⟨I4,st4,ex4⟩:=I3.push J3;rw[eA2]at I4 st4;have S4:Step gR H t _ t2:=(((st1.mono fun m h=>OR h).trans (st2.mono fun m h=>OR h)).trans st3).trans st4;exact⟨_,rfl,_,_,_,rfl,I4.ob,cB,t2,{ G with As:=G.As++[A2] },_,rfl,I4,gd2,fun H5 t5 G5 e5 st5 ex5 I5=>k0.go I5 (S4.trans st5) (ex4.trans ex5) e5⟩
end
end Sb
namespace Sb
open PySem L2
section
variable{P:Program}{w:World}{K:PySem.W.Frag}{mg:Str→Option Value}{base:Heap}{a:Ad}
inductive Jf(a:Ad)(vs:List V)(H:Hp)(Q:VK):Prop
 |mk(t:Tag)(p dx:Addr)(n0 n1 n2 n3 n4:Nat)(_:vs=[.ref p,.int n0,.int n1,.int n2,.int n3,.int n4])(_:H p=some (.ins (a.c 7) dx []))(_:Fr H t)(_:∀ H' t' G',G'.p=p→aL a H' t' G' (N.begun ⟨n0,n1,n2,n3,n4⟩)→(∀ b u,H b=some u→b≠p→H' b=some u)→(∀ b,H b≠none→b≠p→t' b=t b)→Fr H' t'→Q .non H')
def GU(a:Ad):Sp:=fun vs H Q _=>Jf a vs H Q
theorem GP:ao ["self","innings_each","overs_limit","over_length","bowler_limit","follow_lead"] ["self","innings_each","overs_limit","over_length","bowler_limit","follow_lead"] (ai wd):=⟨rfl,rfl,rfl,by decide +kernel,rfl,by decide +kernel,by decide +kernel⟩
theorem Iu(T:Txt K mg a):aZ P w K mg base cG 1 (a.f 67) (a.d 67) ["self","innings_each","overs_limit","over_length","bowler_limit","follow_lead"] (GU a):=by
 refine T.ab.B8.F.ok GP (fun vs H Q E h=>?_) (fun cdv A outer s H vs Q E hr h=>?_)
 ·obtain⟨t,p,dx,n0,n1,n2,n3,n4,rfl,_⟩:=h;rfl
 ·obtain⟨t,p,dx,n0,n1,n2,n3,n4,rfl,hp,fr,k0⟩:=h;refine⟨_,(ae (aW (pv 0) (pv 1) rfl) (ae (aW (pv 0) (pv 2) rfl) (ae (aW (pv 0) (pv 3) rfl) (ae (aW (pv 0) (pv 4) rfl) (ae (aW (pv 0) (pv 5) rfl) (ae (aW (pv 0) (bO ah) rfl) (ae (aW (pv 0) (bO (aK aj (aK aj ah))) rfl) (ae (aW (pv 0) pI rfl) (ag (aW (pv 0) pI rfl)))))))))),?_⟩;refine⟨_,rfl,_,rfl,_,_,_,_,rfl,hp,T.ab.cl,T.ab.jj,Nat.lt_of_le_of_lt (Nat.le_refl 0) (by decide),?_⟩;refine⟨_,rfl,_,rfl,_,_,_,_,rfl,aa,T.ab.cl,T.ab.b6,Nat.lt_of_le_of_lt (lp (Nat.le_refl 0)) (by decide),?_⟩;refine⟨_,rfl,_,rfl,_,_,_,_,rfl,aa,T.ab.cl,T.ab.dO,Nat.lt_of_le_of_lt (lp (lp (Nat.le_refl 0))) (by decide),?_⟩;refine⟨_,rfl,_,rfl,_,_,_,_,rfl,aa,T.ab.cl,T.ab.jd,Nat.lt_of_le_of_lt (lp (lp (lp (Nat.le_refl 0)))) (by decide),?_⟩;refine⟨_,rfl,_,rfl,_,_,_,_,rfl,aa,T.ab.cl,T.ab.jT,Nat.lt_of_le_of_lt (lp (lp (lp (lp (Nat.le_refl 0))))) (by decide),?_⟩;simp only[jz]
  generalize ef:(aw "follow_lead" (.int n4) (aw "bowler_limit" (.int n3) (aw "over_length" (.int n2) (aw "overs_limit" (.int n1) (aw "innings_each" (.int n0) [])))))=F5
  have l5:F5.length≤5:=by rw[←ef];exact lp (lp (lp (lp (lp (Nat.le_refl 0)))))
  refine⟨(by show 0≤sizeLine;decide),fun q1 hq1=>?_⟩;have n1p:p≠q1:=aQ aa hq1;refine⟨_,rfl,_,_,_,_,rfl,(ax n1p).trans aa,T.ab.cl,T.ab.bF,Nat.lt_of_le_of_lt l5 (by decide),?_⟩;refine⟨(by show 2≤sizeLine;decide),fun q2 hq2=>?_⟩;have n2p:p≠q2:=aQ aa hq2;have n21:q1≠q2:=fun e=>by
   rw[←e,ax n1p.symm,aa]at hq2;cases hq2
  refine⟨_,rfl,_,_,_,_,rfl,(ax n2p).trans aa,T.ab.cl,T.ab.wz,Nat.lt_of_le_of_lt (lp l5) (by decide),?_⟩;refine⟨_,rfl,_,_,_,_,rfl,aa,T.ab.cl,T.ab.eU,Nat.lt_of_le_of_lt (lp (lp l5)) (by decide),?_⟩;refine⟨_,rfl,_,_,_,_,rfl,aa,T.ab.cl,T.ab.dM,Nat.lt_of_le_of_lt (lp (lp (lp l5))) (by decide),?_⟩;simp only[jz];have e9:aw "time_is_up" (.bl false) (aw "followed_on" (.bl false) (aw "owed" (.ref q2) (aw "played" (.ref q1) F5)))=bA ⟨p,dx,q1,q2,[]⟩ (N.begun ⟨n0,n1,n2,n3,n4⟩):=by
   rw[←ef]
   kernel_rfl
  rw[e9];have h1:H q1=none:=by
   rw[ax n1p.symm]at hq1;exact hq1
  have h2:H q2=none:=by
   rw[ax n2p.symm,ax n21.symm,ax n2p.symm]at hq2;exact hq2
  have keep:∀ b u,H b=some u→b≠p→(upd (upd (upd (upd (upd H p (.ins (a.c 7) dx F5)) q1 (.lst [])) p (.ins (a.c 7) dx (aw "played" (.ref q1) F5))) q2 (.lst [.int 0,.int 0])) p (.ins (a.c 7) dx (bA ⟨p,dx,q1,q2,[]⟩ (N.begun ⟨n0,n1,n2,n3,n4⟩)))) b=some u:=fun b u h hb=>by
   rw[ax hb,ax (aQ h h2),ax hb,ax (aQ h h1),ax hb];exact h
  refine k0 _ (cn (cn (cn t p 4) q1 5) q2 6) ⟨p,dx,q1,q2,[]⟩ rfl ⟨aa,?_,?_,?_,?_,ck,rfl,fun k A i hA=>by simp at hA⟩ keep (fun b h hb=>?_) (fun b e=>?_)
  ·show cn (cn (cn t p 4) q1 5) q2 6 p=4;rw[eR n2p,eR n1p,ck]
  ·show _=some (HO.lst []);rw[ax n1p.symm,ax n21,ax n1p.symm,aa]
  ·show cn (cn (cn t p 4) q1 5) q2 6 q1=5;rw[eR n21,ck]
  ·rw[ax n2p.symm,aa];rfl
  ·rw[eR (fun z=>h (by rw[z];exact h2)),eR (fun z=>h (by rw[z];exact h1)),eR hb]
  ·have b1:b≠p:=fun z=>by rw[z,aa]at e;cases e
   rw[ax b1]at e;have b2:b≠q2:=fun z=>by rw[z,aa]at e;cases e
   rw[ax b2,ax b1]at e;have b3:b≠q1:=fun z=>by rw[z,aa]at e;cases e
   rw[ax b3,ax b1]at e;rw[eR b2,eR b3,eR b1];exact fr b e
structure IZ where
 pr:Addr
 k:Nat
 S:QP
structure sN(a:Ad)(H:Hp)(t:Tag)(c:Addr)(g:aq.ab)(ps:List Addr)(lo sv:Addr)(es:List IZ):Prop where
 ob:H c=some (.tup [.int g.played.length,.ref lo,.bl g.followed,.bl g.up,.ref sv])
 tc:t c=0
 owed:H lo=some (.lst [.int g.owed.1,.int g.owed.2])
 Td:t lo=0
 RN:H sv=some (.lst ((es.map (·.pr)).map V.ref))
 Tb:t sv=0
 each:∀ e∈es,t e.pr=0∧∃ p i,ps[e.k]?=some p∧g.played[e.k]?=some i∧H e.pr=some (.tup [.ref p,.ref e.S.c])∧yz a H t e.S (N.proj i)
 cover:∀(k:Nat)(i:aq.ak),g.played[k]?=some i→aq.ab.lastOf i.side g.played=some k→∃ e∈es,e.k=k
 AE:es.length≤2
theorem sN.step{H H':Hp}{t t':Tag}{c lo sv:Addr}{g:aq.ab}{ps:List Addr}{es:List IZ}{R:Nat→Prop}(h:sN a H t c g ps lo sv es)(s:Step R H t H' t')(h0:¬R 0):sN a H' t' c g ps lo sv es:=by
 have k1:=s.ei h0 h.ob h.tc;have k2:=s.ei h0 h.owed h.Td;have k3:=s.ei h0 h.RN h.Tb;refine⟨k1.1,k1.2,k2.1,k2.2,k3.1,k3.2,fun e he=>?_,h.cover,h.AE⟩;obtain⟨tp,p,i,hp,hi,ho,hS⟩:=h.each e he;have k4:=s.ei h0 ho tp;exact⟨k4.2,p,i,hp,hi,k4.1,hS.step s h0⟩
theorem sN.places{H:Hp}{t:Tag}{c lo sv:Addr}{g:aq.ab}{ps qs:List Addr}{es:List IZ}(h:sN a H t c g ps lo sv es)(e:∀ k,k<g.played.length→qs[k]?=ps[k]?):sN a H t c g qs lo sv es:=by
 refine⟨h.ob,h.tc,h.owed,h.Td,h.RN,h.Tb,fun x hx=>?_,h.cover,h.AE⟩;obtain⟨tp,p,i,hp,hi,r⟩:=h.each x hx;exact⟨tp,p,i,by rw[e x.k (List.getElem?_eq_some_iff.mp hi).1];exact hp,hi,r⟩
theorem Ju{xs:List V}:DV xs (some (-1)) none=xs.drop (xs.length-1):=by
 unfold DV;have e1:HT.Iz xs.length 0 (some (-1))=xs.length-1:=by
  show(if(-1:Int)<0 then((-1:Int)+(xs.length:Int)).toNat else min (-1:Int).toNat xs.length)=_;rw[if_pos (by decide)];omega
 rw[e1,HT.JD];apply List.take_of_length_le;rw[List.length_drop];omega
theorem MF{xs:List V}{n:Nat}:DV xs none (some (n:Int))=xs.take n:=by
 unfold DV;rw[HT.JD,HT.HX,List.drop_zero,Nat.sub_zero];by_cases h:n≤xs.length
 ·rw[Nat.min_eq_left h]
 ·rw[Nat.min_eq_right (by omega),List.take_length,List.take_of_length_le (by omega)]
noncomputable def iG(As:List cO)(pl:List aq.ak):List (cO×aq.ak):=(sel 0 As pl).drop ((sel 0 As pl).length-1)++(sel 1 As pl).drop ((sel 1 As pl).length-1)
theorem KA{As:List cO}{pl:List aq.ak}{q:cO×aq.ak}(h:q∈iG As pl):∃ k:Nat,As[k]?=some q.1∧pl[k]?=some q.2:=by
 rcases List.mem_append.mp h with z|z
 ·obtain⟨k,h1,h2,_⟩:=Ip (List.mem_of_mem_drop z);exact⟨k,h1,h2⟩
 ·obtain⟨k,h1,h2,_⟩:=Ip (List.mem_of_mem_drop z);exact⟨k,h1,h2⟩
theorem Kn(As:List cO)(pl:List aq.ak):(iG As pl).length≤2:=by
 unfold iG;rw[List.length_append,List.length_drop,List.length_drop];omega
theorem Hd{As:List cO}{pl:List aq.ak}(hl:As.length=pl.length){k:Nat}{i:aq.ak}(hs:i.side≤1)(h:pl[k]?=some i)(hk:aq.ab.lastOf i.side pl=some k):∃ q∈iG As pl,As[k]?=some q.1:=by
 rcases DT (s:=i.side) hl with⟨_,h2⟩|⟨qs,q,k',h1,h2,h3,h4⟩
 ·rw[hk]at h2;cases h2
 ·rw[hk]at h2;cases h2;refine⟨q,?_,h3⟩;have hm:q∈(sel i.side As pl).drop ((sel i.side As pl).length-1):=by rw[h1];simp
  unfold iG;have:i.side=0∨i.side=1:=by omega
  rcases this with e|e
  ·rw[e]at hm;exact List.mem_append_left _ hm
  ·rw[e]at hm;exact List.mem_append_right _ hm
structure DX(a:Ad)(H0 H:Hp)(t:Tag)(D:Addr)(ls:List (cO×aq.ak))(es:List IZ):Prop where
 lst:H D=some (.lst ((es.map (·.pr)).map V.ref))
 same:a6 H0 H
 len:es.length=ls.length
 each:∀(j:Nat)(e:IZ)(q:cO×aq.ak),es[j]?=some e→ls[j]?=some q→(e.pr≠D∧e.S.te≠D∧e.S.bl≠D∧e.S.fl≠D)∧t e.pr=0∧H e.pr=some (.tup [.ref q.1.p,.ref e.S.c])∧yz a H t e.S (N.proj q.2)
theorem Jo{H:Hp}{t:Tag}{S:QP}{n:N.ak}(h:yz a H t S n){D:Addr}{xs:List V}(hD:H D=some (.lst xs))(h1:S.te≠D)(h2:S.bl≠D)(h3:S.fl≠D)(ys:List V):yz a (upd H D (.lst ys)) t S n:=by
 have nt:∀{b:Addr}{zs:List V},H b=some (.tup zs)→b≠D:=fun e z=>by rw[z,hD]at e;cases e
 have ni:∀{b C d:Addr}{fs:List (Str×V)},H b=some (.ins C d fs)→b≠D:=fun e z=>by rw[z,hD]at e;cases e
 obtain⟨os,hos,ds,rfl⟩:=h.sums
 have ob:∀{α:Type}{O:α→HO→Prop}{l:Addr}{ps:List Addr}{xs:List α},(∀ x o,O x o→∃ C d fs,o=.ins C d fs)→l≠D→Objs O H t l ps xs→Objs O (upd H D (.lst ys)) t l ps xs:=fun hO hl J=>⟨(ax hl).trans J.lst,J.len,fun j p x hp hx=>by
  obtain⟨ht,o,ho,hx'⟩:=J.at_ j p x hp hx;obtain⟨C,d,fs,rfl⟩:=hO x o hx'
  exact⟨ht,_,(ax (ni ho)).trans ho,hx'⟩⟩
 have tl:∀{α:Type}{O:α→HO→Prop}{c:Addr}{xs:List α},(∀ x o,O x o→(∃ C d fs,o=.ins C d fs)∨∃ zs,o=.tup zs)→Tail O H t c xs→Tail O (upd H D (.lst ys)) t c xs:=fun hO J=>by
  obtain⟨v,hv,hw⟩:=J.ob;refine⟨J.tg,v,(ax (nt hv)).trans hv,fun ps x e=>?_⟩;obtain⟨p,o,e1,e2,e3,e4⟩:=hw ps x e;rcases hO x o e4 with⟨C,d,fs,rfl⟩|⟨zs,rfl⟩
  ·exact⟨p,_,e1,e2,(ax (ni e3)).trans e3,e4⟩
  ·exact⟨p,_,e1,e2,(ax (nt e3)).trans e3,e4⟩
 obtain⟨v2,hv2,hw2⟩:=h.o2.ob
 exact⟨(ax (nt h.ob)).trans h.ob,h.tc,(ax h1).trans h.ends,h.S0,⟨_,(ax (ni hos)).trans hos,ds,rfl⟩,h.Sz,
  ob (fun x o ⟨d,e⟩=>⟨_,d,_,e⟩) h2 h.bats,h.OB,ob (fun x o ⟨d,e⟩=>⟨_,d,_,e⟩) h3 h.aI,h.Tc,(ax (nt h.tt)).trans h.tt,h.Tg,
  tl (fun x o ⟨d,e⟩=>.inl ⟨_,d,_,e⟩) h.o1,⟨h.o2.tg,v2,(ax (nt hv2)).trans hv2,hw2⟩,tl (fun x o e=>.inr ⟨_,e⟩) h.o3,tl (fun x o ⟨d,e⟩=>.inl ⟨_,d,_,e⟩) h.o4⟩
end
end Sb
namespace Sb
open PySem L2
section
variable{P:Program}{w:World}{K:PySem.W.Frag}{mg:Str→Option Value}{base:Heap}{a:Ad}
theorem DX.zero{H:Hp}{t:Tag}{D:Addr}(hD:H D=none):DX a H (upd H D (.lst [])) t D [] []:=⟨aa,aA hD,rfl,fun j e q he=>by simp at he⟩
theorem DX.next{H0 H1 H2:Hp}{t:Tag}{D c:Addr}{ls:List (cO×aq.ak)}{es:List IZ}{q:cO×aq.ak}{S:QP}{k:Nat}(h:DX a H0 H1 t D ls es)(hD:H0 D=none)(fr:Fr H1 t)(s:a6 H1 H2)(f1:H1 S.te=none)(f2:H1 S.bl=none)(f3:H1 S.fl=none)(hS:yz a H2 t S (N.proj q.2))(hc:H2 c=none) :
  DX a H0 (upd (upd H2 c (.tup [.ref q.1.p,.ref S.c])) D (.lst ((es.map (·.pr)).map V.ref++[.ref c]))) t D (ls++[q]) (es++[⟨c,k,S⟩]):=by
 have hD2:H2 D=some _:=s _ _ h.lst;have s3:=aA (o:=.tup [.ref q.1.p,.ref S.c]) hc;have hD3:=s3 _ _ hD2;have ncD:c≠D:=fun e=>by rw[e,hD2]at hc;cases hc
 have dn:∀{b:Addr},H1 b=none→b≠D:=fun e z=>by rw[z,h.lst]at e;cases e
 have stp:Step (fun _=>False) H2 t (upd H2 c (.tup [.ref q.1.p,.ref S.c])) t:=Step.same s3;refine⟨?_,fun b u e=>?_,by simp[h.len],fun j e x he hx=>?_⟩
 ·rw[aa];simp
 ·rw[ax (aQ e hD)];exact s3 _ _ (s _ _ (h.same _ _ e))
 ·by_cases hj:j<es.length
  ·rw[List.getElem?_append_left hj]at he;rw[List.getElem?_append_left (by rw[←h.len];exact hj)]at hx;obtain⟨e1,e2,e3,e4⟩:=h.each j e x he hx;have st1:Step (fun _=>False) H1 t (upd H2 c (.tup [.ref q.1.p,.ref S.c])) t:=Step.same (s.trans s3);exact⟨e1,e2,(ax e1.1).trans (s3 _ _ (s _ _ e3)),Jo (e4.step st1 (fun z=>z)) hD3 e1.2.1 e1.2.2.1 e1.2.2.2 _⟩
  ·have hj2:j=es.length:=by
    have:=(List.getElem?_eq_some_iff.mp he).1;simp at this;omega
   subst hj2;have ee:(⟨c,k,S⟩:IZ)=e:=by simpa using he
   have ex:q=x:=by rw[h.len]at hx;simpa using hx
   subst ee ex;exact⟨⟨ncD,dn f1,dn f2,dn f3⟩,fr c (s.free hc),(ax ncD).trans aa,Jo (hS.step stp (fun z=>z)) hD3 (dn f1) (dn f2) (dn f3) _⟩
theorem Ls{H:Hp}{t:Tag}{G:bE}{g:aq.ab}(I:aL a H t G g){j k:Nat}{A:cO}(h1:G.As[j]?=some A)(h2:G.As[k]?=some A):j=k:=by
 have l1:=(List.getElem?_eq_some_iff.mp h1).1;have l2:=(List.getElem?_eq_some_iff.mp h2).1;rw[I.len]at l1 l2;have t1:=(I.iT j A _ h1 (List.getElem?_eq_getElem l1)).nG;have t2:=(I.iT k A _ h2 (List.getElem?_eq_getElem l2)).nG;omega
theorem GD{l:List (cO×aq.ak)}{n:Nat}:(((l.map (·.1.p)).map V.ref).drop n)=(((l.drop n).map (·.1.p)).map V.ref):=by rw[List.map_drop,List.map_drop]
inductive CA(a:Ad)(vs:List V)(H:Hp)(Q:VK):Prop
 |mk(t:Tag)(G:bE)(g:aq.ab)(_:vs=[.ref G.p])(_:aL a H t G g)(_:Fr H t)(_:Gd g)(_:∀ H' c lo sv es,a6 H H'→sN a H' t c g (G.As.map (·.p)) lo sv es→Q (.ref c) H')
def Bj(a:Ad):Sp:=fun vs H Q _=>CA a vs H Q
theorem ju:ao ["self","latest","saved","innings"] ["self"] (ai nL):=⟨rfl,rfl,rfl,by decide +kernel,rfl,by decide +kernel,by decide +kernel⟩
theorem AY(T:Txt K mg a):aZ P w K mg base cG 3 (a.f 89) (a.d 89) ["self"] (Bj a):=by
 refine T.ab.vk.F.ok ju (fun vs H Q E h=>?_) (fun cdv A outer s H vs Q E hr h=>?_)
 ·obtain⟨t,G,g,rfl,_⟩:=h;rfl
 ·obtain⟨t,G,g,rfl,I,fr,gd,k0⟩:=h;refine⟨_,(ae (aX (i:=1) ju.nd rfl (Or.inl rfl) (bM om (wB Aj (aU (pv 0) T.ab.cl T.ab.df (gN T) (hr.mono (by decide)) T.ab.f7.b au (aK aj ah)) (ua (ly g5 aj)) HG) (wB Aj (aU (pv 0) T.ab.cl T.ab.df (gN T) (hr.mono (by decide)) T.ab.f7.b au (aK aj ah)) (ua (ly g5 aj)) HG))) (ae (Oq (i:=2) rfl ju.nd rfl rfl (O5 rfl rfl rfl rfl) (uV (pv 1)) (lL (own:=[("innings",3)]) (by kernel_rfl)) (fun _ _ _ _ _=>mY (i:=3) ju.nd rfl (Or.inl rfl)) (fun _ _ _ _ _=>by exact xC) (fun _ _ _ _ _=>by exact (AV (aK (pv 3) (aK (az (pv 3) T.Innings.cl T.Innings.gX (xZ T) (hr.mono (by decide)) T.Innings.qv.b .nil au ) ah))))) (ag (ay (AV (aK (ba aP rfl T.fn.c8 PySem.boot_len (aK (af (pv 0) rfl) ah)) (aK (gG eK rfl T.fn.pV PyProof.Rows.boot_list (aK (af (pv 0) rfl) ah)) (aK (af (pv 0) rfl) (aK (af (pv 0) rfl) (aK (pv 2) ah)))))))))),?_⟩
  refine⟨_,rfl,_,_,_,rfl,I.ob,fQ,t,G,g,0,rfl,I,gd.len,fun D1 hD1=>?_⟩;have s1:=aA (o:=.lst (((sel 0 G.As g.played).map (·.1.p)).map V.ref)) hD1;refine⟨_,rfl,_,rfl,_,_,rfl,bD.of aa,fun D2 hD2=>?_⟩;rw[Ju];have s2:=aA (o:=.lst ((((sel 0 G.As g.played).map (·.1.p)).map V.ref).drop ((((sel 0 G.As g.played).map (·.1.p)).map V.ref).length-1))) hD2;have I2:=(I.same s1).same s2;refine⟨_,rfl,_,_,_,rfl,I2.ob,fQ,t,G,g,1,rfl,I2,gd.len,fun D3 hD3=>?_⟩;have s3:=aA (o:=.lst (((sel 1 G.As g.played).map (·.1.p)).map V.ref)) hD3;refine⟨_,rfl,_,rfl,_,_,rfl,bD.of aa,fun D4 hD4=>?_⟩;rw[Ju];have s4:=aA (o:=.lst ((((sel 1 G.As g.played).map (·.1.p)).map V.ref).drop ((((sel 1 G.As g.played).map (·.1.p)).map V.ref).length-1))) hD4;have eL:((((sel 0 G.As g.played).map (·.1.p)).map V.ref).drop ((((sel 0 G.As g.played).map (·.1.p)).map V.ref).length-1))++((((sel 1 G.As g.played).map (·.1.p)).map V.ref).drop ((((sel 1 G.As g.played).map (·.1.p)).map V.ref).length-1))=((iG G.As g.played).map (·.1.p)).map V.ref:=by
   rw[GD,GD];unfold iG;simp only[List.length_map,List.map_append]
  have h2:=s4 _ _ (s3 _ _ (aa (H:=upd H D1 (.lst (((sel 0 G.As g.played).map (·.1.p)).map V.ref))) (a:=D2) (o:=.lst ((((sel 0 G.As g.played).map (·.1.p)).map V.ref).drop ((((sel 0 G.As g.played).map (·.1.p)).map V.ref).length-1)))));have ll:=Kn G.As g.played;refine⟨_,_,_,_,rfl,rfl,h2,aa,?_,fun D5 hD5=>?_⟩
  ·rw[←List.length_append,eL,List.length_map,List.length_map];exact xQ (by omega)
  rw[eL];have s5:=aA (o:=.lst (((iG G.As g.played).map (·.1.p)).map V.ref)) hD5;have S5:=(((s1.trans s2).trans s3).trans s4).trans s5
  generalize e5:upd (upd (upd (upd (upd H D1 (.lst (((sel 0 G.As g.played).map (·.1.p)).map V.ref))) D2 (.lst ((((sel 0 G.As g.played).map (·.1.p)).map V.ref).drop ((((sel 0 G.As g.played).map (·.1.p)).map V.ref).length-1)))) D3 (.lst (((sel 1 G.As g.played).map (·.1.p)).map V.ref))) D4 (.lst ((((sel 1 G.As g.played).map (·.1.p)).map V.ref).drop ((((sel 1 G.As g.played).map (·.1.p)).map V.ref).length-1)))) D5 (.lst (((iG G.As g.played).map (·.1.p)).map V.ref))=H5 at *
  have h5:H5 D5=some (.lst (((iG G.As g.played).map (·.1.p)).map V.ref)):=by rw[←e5];exact aa
  have I5:=I.same S5;have fr5:=a6.fr S5 fr;refine⟨_,rfl,_,rfl,⟨_,bD.of h5⟩,fun D hD=>LN (K:=K) (a:=D5) (xs:=((iG G.As g.played).map (·.1.p)).map V.ref) (fun i H2=>∃ es,DX a H5 H2 t D ((iG G.As g.played).take i) es∧∀ e∈es,∃ A,G.As[e.k]?=some A∧∀(j:Nat)(q:cO×aq.ak),es[j]?=some e→(iG G.As g.played)[j]?=some q→G.As[e.k]?=some q.1∧g.played[e.k]?=some q.2) ⟨[],DX.zero hD,fun e he=>by simp at he⟩ (fun i H2 _ ⟨es,sv,_⟩=>bD.of (sv.same _ _ h5)) ?_ ?_⟩
  ·rintro i x H2 hx ⟨es,sv,ks⟩
   obtain⟨q,hq,rfl⟩:∃ q,(iG G.As g.played)[i]?=some q∧V.ref q.1.p=x:=by
    rw[List.getElem?_map,List.getElem?_map]at hx
    cases z:(iG G.As g.played)[i]? with
    |none=>rw[z]at hx;cases hx
    |some q=>rw[z]at hx;exact⟨q,rfl,Option.some.inj hx⟩
   obtain⟨k,hA,hi⟩:=KA (List.mem_of_getElem? hq);have J:=(I5.iT k _ _ hA hi).same sv.same;have fr2:=a6.fr sv.same fr5;refine⟨rfl,_,rfl,_,rfl,_,_,_,rfl,J.ob,vA,t,k,q.1,_,rfl,J,fr2,fun H3 S s3 f1 f2 f3 hS=>⟨(by show 2≤sizeLine;decide),fun c hc=>?_⟩⟩;have hle:es.length=i:=by
    have:=sv.len;rw[List.length_take]at this;have:=(List.getElem?_eq_some_iff.mp hq).1;omega
   refine⟨_,(aA hc) _ _ (s3 _ _ sv.lst),pA (by rw[List.length_map,List.length_map];have:=(List.getElem?_eq_some_iff.mp hq).1;omega),es++[⟨c,k,S⟩],?_,?_⟩
   ·have et:(iG G.As g.played).take (i+1)=(iG G.As g.played).take i++[q]:=by
     obtain⟨h1,h2⟩:=List.getElem?_eq_some_iff.mp hq;rw[List.take_succ_eq_append_getElem h1,h2]
    rw[et];exact sv.next hD fr2 s3 f1 f2 f3 hS hc
   ·intro e he;rcases List.mem_append.mp he with z|z
    ·obtain⟨A,hA',hq'⟩:=ks e z;refine⟨A,hA',fun j q' hj hq2=>?_⟩;by_cases hj2:j<es.length
     ·rw[List.getElem?_append_left hj2]at hj;exact hq' j q' hj hq2
     ·have hj3:j=es.length:=by
       have:=(List.getElem?_eq_some_iff.mp hj).1;simp at this;omega
      subst hj3;have ee:(⟨c,k,S⟩:IZ)=e:=by simpa using hj
      rw[hle,hq]at hq2;cases hq2;rw[←ee];exact⟨hA,hi⟩
    ·rw[List.mem_singleton.mp z];refine⟨q.1,hA,fun j q' hj hq2=>?_⟩;by_cases hj2:j<es.length
     ·rw[List.getElem?_append_left hj2]at hj;obtain⟨A,hA',hq'⟩:=ks _ (List.mem_of_getElem? hj);exact hq' j q' hj hq2
     ·have hj3:j=es.length:=by
       have:=(List.getElem?_eq_some_iff.mp hj).1;simp at this;omega
      subst hj3;rw[hle,hq]at hq2;cases hq2;exact⟨hA,hi⟩
  ·rintro H6 ⟨es,sv,ks⟩
   rw[List.length_map,List.length_map,List.take_length]at sv;have S6:=S5.trans sv.same;have I6:=I.same S6;have hlen:((G.As.map (·.p)).map V.ref).length=g.played.length:=by rw[List.length_map,List.length_map,I.len]
   refine⟨_,rfl,_,_,_,_,_,rfl,I6.ob,T.ab.cl,T.ab.bF,aV,_,_,rfl,.inl (bD.of I6.played),_,rfl,_,_,_,_,_,rfl,I6.ob,T.ab.cl,T.ab.wz,qV,_,_,rfl,.inl (bD.of I6.owed),fun lo hlo=>?_⟩;rw[hlen];have s7:=aA (o:=.lst [.int g.owed.1,.int g.owed.2]) hlo;have I7:=I6.same s7;refine⟨_,rfl,_,_,_,_,_,rfl,I7.ob,T.ab.cl,T.ab.eU,kM,_,rfl,_,_,_,_,_,rfl,I7.ob,T.ab.cl,T.ab.dM,iR,_,rfl,(by show 5≤sizeLine;decide),fun c hc=>?_⟩;have s8:=aA (o:=.tup [.int g.played.length,.ref lo,.bl g.followed,.bl g.up,.ref D]) hc;have S8:=(S6.trans s7).trans s8;refine k0 _ c lo D es S8 ⟨aa,fr c ((S6.trans s7).free hc),s8 _ _ aa,fr lo (S6.free hlo),(s7.trans s8) _ _ sv.lst,fr D (S5.free hD),fun e he=>?_,fun k i hi hk=>?_,by rw[sv.len];exact ll⟩
   ·obtain⟨j,hj⟩:=List.mem_iff_getElem?.mp he;obtain⟨q,hq⟩:∃ q,(iG G.As g.played)[j]?=some q:=⟨_,List.getElem?_eq_getElem (by rw[←sv.len];exact (List.getElem?_eq_some_iff.mp hj).1)⟩
    obtain⟨_,e2,e3,e4⟩:=sv.each j e q hj hq;obtain⟨A,_,hq'⟩:=ks e he;obtain⟨hA,hi⟩:=hq' j q hj hq;exact⟨e2,q.1.p,q.2,by rw[List.getElem?_map,hA];rfl,hi,(s7.trans s8) _ _ e3,e4.step (R:=fun _=>False) (Step.same (s7.trans s8)) (fun z=>z)⟩
   ·obtain⟨q,hq,hA⟩:=Hd I.len (gd.side i (List.mem_of_getElem? hi)) hi hk;obtain⟨j,hj⟩:=List.mem_iff_getElem?.mp hq;obtain⟨e,he⟩:∃ e,es[j]?=some e:=⟨_,List.getElem?_eq_getElem (by rw[sv.len];exact (List.getElem?_eq_some_iff.mp hj).1)⟩
    obtain⟨A,_,hq'⟩:=ks e (List.mem_of_getElem? he);obtain⟨hA2,hi2⟩:=hq' j q he hj;refine⟨e,List.mem_of_getElem? he,?_⟩;exact Ls I hA2 hA
end
end Sb
namespace Sb
open PySem L2
section
variable{P:Program}{w:World}{K:PySem.W.Frag}{mg:Str→Option Value}{base:Heap}{a:Ad}
theorem aL.Mf{H:Hp}{t:Tag}{G:bE}{g:aq.ab}(I:aL a H t G g){q:Addr}(n:Nat)(hq:H q=some (.lst (((G.As.take n).map (·.p)).map V.ref)))(tq:t q=5) :
  aL a (upd H G.p (.ins (a.c 7) G.dx (bA { G with played:=q,As:=G.As.take n } { g with played:=g.played.take n }))) t { G with played:=q,As:=G.As.take n } { g with played:=g.played.take n }∧
  Step gR H t (upd H G.p (.ins (a.c 7) G.dx (bA { G with played:=q,As:=G.As.take n } { g with played:=g.played.take n }))) t:=by
 have s:Step (fun m=>m=4) H t (upd H G.p (.ins (a.c 7) G.dx (bA { G with played:=q,As:=G.As.take n } { g with played:=g.played.take n }))) t:=Step.upd I.ob I.nG;refine⟨⟨aa,I.nG,s.keep _ _ hq (by rw[tq];decide),tq,s.keep _ _ I.owed (by rw[I.M5];decide),I.M5,?_,fun k A i hA hi=>?_⟩,s.mono fun m h=>by unfold gR;omega⟩
 ·show(G.As.take n).length=(g.played.take n).length;rw[List.length_take,List.length_take,I.len]
 ·have hA':(G.As.take n)[k]?=some A:=hA;have hi':(g.played.take n)[k]?=some i:=hi;rw[List.getElem?_take]at hA' hi'
  split at hA'
  ·rename_i hk;rw[if_pos hk]at hi';exact (I.iT k A i hA' hi').step s (by decide) fun m hm h=>by unfold inR at hm;omega
  ·cases hA'
theorem aL.Pl{H:Hp}{t:Tag}{G:bE}{g:aq.ab}(I:aL a H t G g){q:Addr}{x y:Nat}(hq:H q=some (.lst [.int x,.int y]))(tq:t q=6) :
  aL a (upd H G.p (.ins (a.c 7) G.dx (bA { G with owed:=q } { g with owed:=(x,y) }))) t { G with owed:=q } { g with owed:=(x,y) }∧
  Step gR H t (upd H G.p (.ins (a.c 7) G.dx (bA { G with owed:=q } { g with owed:=(x,y) }))) t:=by
 have s:Step (fun m=>m=4) H t (upd H G.p (.ins (a.c 7) G.dx (bA { G with owed:=q } { g with owed:=(x,y) }))) t:=Step.upd I.ob I.nG;exact⟨⟨aa,I.nG,s.keep _ _ I.played (by rw[I.Nc];decide),I.Nc,s.keep _ _ hq (by rw[tq];decide),tq,I.len,fun k A i hA hi=>(I.iT k A i hA hi).step s (by decide) fun m hm h=>by unfold inR at hm;omega⟩,s.mono fun m h=>by unfold gR;omega⟩
def PF(g:aq.ab)(es:List IZ)(j:Nat)(pl:List aq.ak):Prop:=pl.length=g.played.length∧∀(k:Nat)(i:aq.ak),g.played[k]?=some i→∃ i',pl[k]?=some i'∧N.jg (N.proj i) (N.proj i')∧((∃ e∈es.take j,e.k=k)→N.proj i'=N.proj i∧i'=i)∧(aq.ab.lastOf i.side g.played≠some k→i'=i)
theorem PF.start{g g':aq.ab}{es:List IZ}(h:N.Upd g.played g'.played):PF g es 0 (g'.played.take g.played.length):=by
 refine⟨?_,fun k i hi=>?_⟩
 ·rw[List.length_take]
  cases q:g.played.length with
  |zero=>simp
  |succ m=>
   obtain⟨i',hi',_⟩:=h m g.played[m] (List.getElem?_eq_getElem (by omega));have:=(List.getElem?_eq_some_iff.mp hi').1;omega
 ·obtain⟨i',h1,h2,h3,h4⟩:=h k i hi;refine⟨i',?_,h3,fun⟨e,he,_⟩=>by simp at he,h4⟩;rw[List.getElem?_take,if_pos (List.getElem?_eq_some_iff.mp hi).1];exact h1
theorem PF.next{g:aq.ab}{es:List IZ}{j:Nat}{pl:List aq.ak}{e:IZ}{i:aq.ak}(h:PF g es j pl)(he:es[j]?=some e)(hi:g.played[e.k]?=some i):PF g es (j+1) (pl.set e.k i):=by
 refine⟨by rw[List.length_set];exact h.1,fun k x hx=>?_⟩;obtain⟨i',h1,h2,h3,h4⟩:=h.2 k x hx;by_cases ek:k=e.k
 ·subst ek;rw[hi]at hx;cases hx;refine⟨i,?_,N.jg.refl _,fun _=>⟨rfl,rfl⟩,fun _=>rfl⟩;rw[List.getElem?_set_self (List.getElem?_eq_some_iff.mp h1).1]
 ·refine⟨i',by rw[List.getElem?_set_ne (Ne.symm ek)];exact h1,h2,fun⟨x',hx',ex'⟩=>h3 ?_,h4⟩;obtain⟨l1,l2⟩:=List.getElem?_eq_some_iff.mp he;rw[List.take_succ_eq_append_getElem l1,l2]at hx';rcases List.mem_append.mp hx' with z|z
  ·exact⟨x',z,ex'⟩
  ·rw[List.mem_singleton.mp z]at ex';exact absurd ex'.symm ek
theorem PF.done{g:aq.ab}{es:List IZ}{pl:List aq.ak}(h:PF g es es.length pl)(cv:∀ (k:Nat) (i:aq.ak),g.played[k]?=some i→aq.ab.lastOf i.side g.played=some k→∃ e∈es,e.k=k):pl=g.played:=by
 apply List.ext_getElem?;intro k
 cases q:g.played[k]? with
 |none=>
  rw[List.getElem?_eq_none_iff]at q ⊢;rw[h.1];exact q
 |some i=>
  obtain⟨i',h1,_,h3,h4⟩:=h.2 k i q;rw[h1]
  congr 1
  by_cases hl:aq.ab.lastOf i.side g.played=some k
  ·obtain⟨e,he,ek⟩:=cv k i q hl;exact (h3 ⟨e,by rw[List.take_length];exact he,ek⟩).2
  ·exact h4 hl
inductive Ef(a:Ad)(vs:List V)(H:Hp)(Q:VK):Prop
 |mk(t:Tag)(G:bE)(g g':aq.ab)(c lo sv:Addr)(es:List IZ)(_:vs=[.ref G.p,.ref c])(_:aL a H t G g')(_:Fr H t)(_:sN a H t c g ((G.As.map (·.p)).take g.played.length) lo sv es)(_:g'.rules=g.rules)(_:N.Upd g.played g'.played)(_:∀ H' t' G',G'.p=G.p→Step gR H t H' t'→G'.As.map (·.p)=(G.As.map (·.p)).take g.played.length→aL a H' t' G' g→Q .non H')
def Cq(a:Ad):Sp:=fun vs H Q _=>Ef a vs H Q
theorem vf:ao ["self","old","pair"] ["self","old"] (ai qc):=⟨rfl,rfl,rfl,by decide +kernel,rfl,by decide +kernel,by decide +kernel⟩
theorem Dl(T:Txt K mg a):aZ P w K mg base cG 3 (a.f 90) (a.d 90) ["self","old"] (Cq a):=by
 refine T.ab.xu.F.ok vf (fun vs H Q E h=>?_) (fun cdv A outer s H vs Q E hr h=>?_)
 ·obtain⟨t,G,g,g',c,lo,sv,es,rfl,_⟩:=h;rfl
 ·obtain⟨t,G,g,g',c,lo,sv,es,rfl,I,fr,Sn,hru,up,k0⟩:=h;refine⟨_,(ae (aW (pv 0) (wB Aj (af (pv 0) rfl) HG (ua (aM dU (pv 1) aj (fun _ _=>rfl)))) rfl) (ae (aW (pv 0) (gG eK rfl T.fn.pV PyProof.Rows.boot_list (aK (aM dU (pv 1) aj (fun _ _=>rfl)) ah)) rfl) (ae (aW (pv 0) (aM dU (pv 1) aj (fun _ _=>rfl)) rfl) (ae (aW (pv 0) (aM dU (pv 1) aj (fun _ _=>rfl)) rfl) (ag (Qi PassesOwn.never rfl (uV (aM dU (pv 1) aj (fun _ _=>rfl))) (mY (i:=2) vf.nd rfl (Or.inl rfl)) (ag (br (aU (aM dU (pv 2) aj (fun _ _=>rfl)) T.Innings.cl T.Innings.iS (ze T) (hr.mono (by decide)) T.Innings.qY.b au (aK (aM dU (pv 2) aj (fun _ _=>rfl)) ah)))))))))),?_⟩;refine⟨_,rfl,_,_,_,_,_,rfl,I.ob,T.ab.cl,T.ab.bF,aV,_,rfl,_,_,_,_,rfl,rfl,tK.of Sn.ob,ar (j:=0) rfl,_,rfl,_,_,rfl,bD.of I.played,fun q1 hq1=>?_⟩;rw[MF];have ep:((G.As.map (·.p)).map V.ref).take g.played.length=((G.As.take g.played.length).map (·.p)).map V.ref:=by rw[List.map_take,List.map_take]
  rw[ep];have st1:Step (fun _=>False) H t (upd H q1 (.lst (((G.As.take g.played.length).map (·.p)).map V.ref))) (cn t q1 5):=Step.new _ hq1;have I1:=I.step st1 (fun h=>h) (fun _ _ h=>h);have Sn1:=Sn.step st1 (fun h=>h);refine⟨_,rfl,_,_,_,_,rfl,I1.ob,T.ab.cl,T.ab.bF,kn,?_⟩;obtain⟨I2,st2⟩:=I1.Mf g.played.length aa ck;rw[Ke q1 (G.As.take g.played.length) (g'.played.take g.played.length)];have Sn2:=Sn1.step st2 xl;refine⟨_,rfl,_,_,_,_,rfl,rfl,tK.of Sn2.ob,ar (j:=1) rfl,_,_,rfl,.inl (bD.of Sn2.owed),fun q3 hq3=>?_⟩;have st3:Step (fun _=>False) _ (cn t q1 5) (upd _ q3 (.lst [.int g.owed.1,.int g.owed.2])) (cn (cn t q1 5) q3 6):=Step.new _ hq3;have I3:=I2.step st3 (fun h=>h) (fun _ _ h=>h);have Sn3:=Sn2.step st3 (fun h=>h);refine⟨_,rfl,_,_,_,_,rfl,I3.ob,T.ab.cl,T.ab.wz,kn,?_⟩;obtain⟨I4,st4⟩:=I3.Pl (q:=q3) (x:=g.owed.1) (y:=g.owed.2) aa ck;rw[Om q3 (g.owed.1,g.owed.2)];have Sn4:=Sn3.step st4 xl;refine⟨_,rfl,_,_,_,_,rfl,rfl,tK.of Sn4.ob,ar (j:=2) rfl,_,rfl,_,_,_,_,rfl,I4.ob,T.ab.cl,T.ab.eU,kn,?_⟩;obtain⟨I5,st5⟩:=I4.fld (g':={ g' with played:=g'.played.take g.played.length,owed:=(g.owed.1,g.owed.2),followed:=g.followed }) rfl rfl;rw[Af];have Sn5:=Sn4.step st5 xl;refine⟨_,rfl,_,_,_,_,rfl,rfl,tK.of Sn5.ob,ar (j:=3) rfl,_,rfl,_,_,_,_,rfl,I5.ob,T.ab.cl,T.ab.dM,kn,?_⟩;obtain⟨I6,st6⟩:=I5.fld (g':={ g' with played:=g'.played.take g.played.length,owed:=(g.owed.1,g.owed.2),followed:=g.followed,up:=g.up }) rfl rfl;rw[Kv];have Sn6:=Sn5.step st6 xl;have upF:∀{H1 H2:Hp}{t1 t2:Tag},Step (fun _=>False) H1 t1 H2 t2→Step gR H1 t1 H2 t2:=fun s=>s.mono fun _ h=>h.elim
  have S6:=((((upF st1).trans st2).trans (upF st3)).trans st4).trans (st5.trans st6);have fr6:=S6.fr fr;have eg:({ g' with played:=g'.played.take g.played.length,owed:=(g.owed.1,g.owed.2),followed:=g.followed,up:=g.up }:aq.ab)={ g with played:=g'.played.take g.played.length }:=by
   obtain⟨r,pl,ow,fo,u⟩:=g;simp only[]at hru;subst hru;rfl
  have I7:=Eq.mp (congrArg (aL a _ _ _) eg) I6;refine⟨_,rfl,_,_,_,_,rfl,rfl,tK.of Sn6.ob,ar (j:=4) rfl,_,rfl,⟨_,bD.of Sn6.RN⟩,Od (K:=K) (a:=sv) (xs:=(es.map (·.pr)).map V.ref) (fun j σ H2=>∃(t2:Tag)(G2:bE)(pl:List aq.ak)(v:Option V),σ=[some (.ref G.p),some (.ref c),v]∧Step gR H t H2 t2∧Fr H2 t2∧sN a H2 t2 c g ((G.As.map (·.p)).take g.played.length) lo sv es∧G2.p=G.p∧G2.As.map (·.p)=(G.As.map (·.p)).take g.played.length∧PF g es j pl∧aL a H2 t2 G2 { g with played:=pl }) ?_ (fun j σ H2 _ ⟨t2,G2,pl,v,_,_,_,Sn2,_⟩=>bD.of Sn2.RN) ?_ ?_⟩
  ·exact⟨_,{ G with played:=q1,owed:=q3,As:=G.As.take g.played.length },_,none,rfl,S6,fr6,Sn6,rfl,by rw[←List.map_take],PF.start up,I7⟩
  ·rintro j x σ H2 hx ⟨t2,G2,pl,v,rfl,S2,fr2,Sn2,eG,eA,mx,I2⟩
   obtain⟨e,he,rfl⟩:∃ e,es[j]?=some e∧V.ref e.pr=x:=by
    rw[List.getElem?_map,List.getElem?_map]at hx
    cases z:es[j]? with
    |none=>rw[z]at hx;cases hx
    |some e=>rw[z]at hx;exact⟨e,rfl,Option.some.inj hx⟩
   obtain⟨tp,p,i,hp,hi,ho,hS⟩:=Sn2.each e (List.mem_of_getElem? he);obtain⟨i',hi',gw,_,_⟩:=mx.2 e.k i hi;obtain⟨A,hA,epA⟩:∃ A,G2.As[e.k]?=some A∧A.p=p:=by
    rw[←eA,List.getElem?_map]at hp
    cases z:G2.As[e.k]? with
    |none=>rw[z]at hp;cases hp
    |some A=>rw[z]at hp;exact⟨A,rfl,Option.some.inj hp⟩
   subst epA;have J:=I2.iT e.k A i' hA hi';refine⟨_,rfl,_,_,_,_,rfl,rfl,tK.of ho,ar (j:=0) rfl,_,_,_,rfl,J.ob,xA,_,rfl,_,_,_,_,rfl,rfl,tK.of ho,ar (j:=1) rfl,t2,e.k,A,_,_,e.S,rfl,J,fr2,hS,gw,fun H3 t3 A3 eA3 st3 J3=>?_⟩;obtain⟨I3,st4,ex⟩:=I2.QH hA st3 eA3 J3;refine⟨t3,{ G2 with As:=G2.As.set e.k A3 },_,_,rfl,S2.trans st4,st3.fr fr2,Sn2.step st4 xl,eG,?_,mx.next he hi,I3⟩;rw[←eA];apply List.ext_getElem?;intro m;rw[List.getElem?_map,List.getElem?_map];show((G2.As.set e.k A3)[m]?).map _=_;by_cases em:m=e.k
   ·subst em;rw[List.getElem?_set_self (List.getElem?_eq_some_iff.mp hA).1,hA];exact congrArg some eA3
   ·rw[List.getElem?_set_ne (Ne.symm em)]
  ·rintro σ H2 ⟨t2,G2,pl,v,rfl,S2,fr2,Sn2,eG,eA,mx,I2⟩
   rw[List.length_map,List.length_map]at mx;have ed:=mx.done Sn2.cover;subst ed;exact k0 H2 t2 G2 eG S2 eA I2
end
end Sb
namespace Sb
open PySem L2
open Sh11 (Ball)
section
variable{P:Program}{w:World}{K:PySem.W.Frag}{mg:Str→Option Value}{base:Heap}{a:Ad}
noncomputable def vE(g:aq.ab):Option Sh11.Event→Int
 |none=>-1
 |some e=>if(g.act e).isSome=true then 0 else -2
theorem rF{g g':aq.ab}{e:Sh11.Event}(h:g.act e=some g'):vE g (some e)=0:=by show(if(g.act e).isSome=true then(0:Int)else -2)=0;rw[h];rfl
theorem lj{g:aq.ab}{e:Sh11.Event}(h:g.act e=none):vE g (some e) = -2:=by show(if(g.act e).isSome=true then(0:Int)else -2) = -2;rw[h];rfl
noncomputable abbrev ib(ns:List Nat):List V:=ns.map fun(n:Nat)=>V.int (n:Int)
inductive MV(a:Ad)(vs:List V)(H:Hp)(Q:VK):Prop
 |mk(c:Bool)(_:vs=[.bl c])(_:Q (.int (if c=true then 0 else -2)) H)
def J8(a:Ad):Sp:=fun vs H Q _=>MV a vs H Q
theorem Kd:ao ["allowed"] ["allowed"] (ai BO):=⟨rfl,rfl,rfl,by decide +kernel,rfl,by decide +kernel,by decide +kernel⟩
theorem gQ(T:Txt K mg a):aZ P w K mg base cG 1 (a.f 91) (a.d 91) ["allowed"] (J8 a):=by
 refine T.fn.cz.F.ok Kd (fun vs H Q E h=>?_) (fun cdv A outer s H vs Q E hr h=>?_)
 ·obtain⟨c,rfl,_⟩:=h;rfl
 ·obtain⟨c,rfl,k⟩:=h;refine⟨_,(ag (ay (dk (dR (pv 0)) (aN rfl T.fn.kB) (aN rfl T.fn.px)))),?_⟩;exact⟨_,rfl,_,rfl,QX k⟩
inductive DA(a:Ad)(vs:List V)(H:Hp)(Q:VK):Prop
 |mk(t:Tag)(G:bE)(g:aq.ab)(l:Addr)(ns:List Nat)(_:vs=[.ref G.p,.ref l])(_:aL a H t G g)(_:Gd g)(_:H l=some (.lst (ib ns)))(_:ns.length=2)(_:∀ H',a6 H H'→Q (.int (vE g (Sh11Neutral.eventOf (1::ns)))) H')
def C7(a:Ad):Sp:=fun vs H Q _=>DA a vs H Q
theorem oy:ao ["game","numbers","striker","other"] ["game","numbers"] (ai qf):=⟨rfl,rfl,rfl,by decide +kernel,rfl,by decide +kernel,by decide +kernel⟩
theorem Dh(T:Txt K mg a):aZ P w K mg base cG 6 (a.f 93) (a.d 93) ["game","numbers"] (C7 a):=by
 refine T.fn.ql.F.ok oy (fun vs H Q E h=>?_) (fun cdv A outer s H vs Q E hr h=>?_)
 ·obtain⟨t,G,g,l,ns,rfl,_⟩:=h;rfl
 ·obtain⟨t,G,g,l,ns,rfl,I,gd,hl,hn,k0⟩:=h;refine⟨_,(ae (aX (i:=2) oy.nd rfl (Or.inl rfl) (aM aD (pv 1) aj (fun _ _=>rfl))) (ae (aX (i:=3) oy.nd rfl (Or.inl rfl) (aM aD (pv 1) aj (fun _ _=>rfl))) (ae (bN (PW.pt (ny (aT (m9 (pv 2) (aN rfl T.fn.gz))) (ny (aT (m9 (pv 3) (aN rfl T.fn.gz))) (qJ (aT (bx (pv 2) (pv 3))))))) (ag (ay (aN rfl T.fn.eN))) aY) (ag (ay (bC (gQ T) (hr.mono (by decide)) rfl T.fn.fJ T.fn.cz.F.kp T.fn.cz.b au (aK (du (bP (NR (az (pv 0) T.ab.cl T.ab.bb (bj T) (hr.mono (by decide)) T.ab.bp.b .nil au ))) (eE (Bf (az (pv 0) T.ab.cl T.ab.eZ (j4 T) (hr.mono (by decide)) T.ab.jk.b .nil au )))) ah))))))),?_⟩;obtain⟨n0,n1,rfl⟩:∃ n0 n1:Nat,ns=[n0,n1]:=by
   match ns,hn with
   |[n0,n1],_=>exact⟨n0,n1,rfl⟩
  have s0:a6 H H:=a6.refl H;refine⟨_,rfl,_,_,_,_,rfl,rfl,bD.of hl,ar (j:=0) rfl,?_⟩;refine⟨_,rfl,_,_,_,_,rfl,rfl,bD.of hl,ar (j:=1) rfl,?_⟩;refine⟨_,rfl,_,_,rfl,rfl,_,rfl,ts ?k1 fun k=>⟨_,rfl,_,_,rfl,rfl,_,rfl,ts k fun k=>⟨_,rfl,_,rfl,_,_,rfl,rfl,_,rfl,k⟩⟩⟩;have ev:Sh11Neutral.eventOf [1,n0,n1]=if n0≤10∧n1≤10∧n0≠n1 then some (.open_ n0 n1)else none:=rfl
  rw[ev]at k0;refine eM (fun h=>?_) (fun h=>?_)
  ·rw[if_neg (by simp at h;omega)]at k0;exact k0 H s0
  ·rw[if_pos (by simp at h;omega)]at k0
   cases hc:g.current with
   |none=>
    refine⟨_,rfl,_,_,_,rfl,I.ob,aO,t,G,g,rfl,I,fun _=>⟨_,rfl,vD ⟨_,rfl,_,_,_,rfl,I.ob,iM,t,G,g,rfl,I,gd,fun H1 s1=>⟨_,rfl,_,rfl,?_⟩⟩⟩,(fun i ps As A z=>by rw[hc]at z;cases z)⟩;have k1:=k0 H1 s1
    cases hv:g.bV with
    |true=>
     rw[lj (by simp only[aq.ab.act];rw[if_pos (.inr hv)])]at k1;exact k1
    |false=>
     rw[rF (g':=g.jn n0 n1) (by simp only[aq.ab.act];rw[if_neg (by rw[hc,hv];simp)])]at k1;exact k1
   |some i=>
    have k1:=k0 H s0;rw[lj (by simp only[aq.ab.act];rw[if_pos (.inl (by rw[hc];rfl))])]at k1;refine⟨_,rfl,_,_,_,rfl,I.ob,aO,t,G,g,rfl,I,(fun z=>by rw[hc]at z;cases z),fun j ps As A hj e eA el J=>⟨_,rfl,cw uM ⟨_,rfl,k1⟩⟩⟩
inductive Fj(a:Ad)(vs:List V)(H:Hp)(Q:VK):Prop
 |mk(t:Tag)(G:bE)(g:aq.ab)(l:Addr)(ns:List Nat)(_:vs=[.ref G.p,.ref l])(_:aL a H t G g)(_:Gd g)(_:H l=some (.lst (ib ns)))(_:ns.length=1)(_:∀ H',a6 H H'→Q (.int (vE g (Sh11Neutral.eventOf (2::ns)))) H')
def DI(a:Ad):Sp:=fun vs H Q _=>Fj a vs H Q
theorem vR:ao ["game","numbers","player"] ["game","numbers"] (ai rN):=⟨rfl,rfl,rfl,by decide +kernel,rfl,by decide +kernel,by decide +kernel⟩
theorem E4(T:Txt K mg a):aZ P w K mg base cG 3 (a.f 94) (a.d 94) ["game","numbers"] (DI a):=by
 refine T.fn.rP.F.ok vR (fun vs H Q E h=>?_) (fun cdv A outer s H vs Q E hr h=>?_)
 ·obtain⟨t,G,g,l,ns,rfl,_⟩:=h;rfl
 ·obtain⟨t,G,g,l,ns,rfl,I,gd,hl,hn,k0⟩:=h;refine⟨_,(ae (aX (i:=2) vR.nd rfl (Or.inl rfl) (aM aD (pv 1) aj (fun _ _=>rfl))) (ae (bN (aT (m9 (pv 2) (aN rfl T.fn.gz))) (ag (ay (aN rfl T.fn.eN))) aY) (ag (ay (bC (gQ T) (hr.mono (by decide)) rfl T.fn.fJ T.fn.cz.F.kp T.fn.cz.b au (aK (du (bP (rh (az (pv 0) T.ab.cl T.ab.bb (bj T) (hr.mono (by decide)) T.ab.bp.b .nil au ))) (eE (aU (pv 0) T.ab.cl T.ab.j2 (AG T) (hr.mono (by decide)) T.ab.vd.b au (aK (pv 2) ah)))) ah)))))),?_⟩;obtain⟨n0,rfl⟩:∃ n0:Nat,ns=[n0]:=by
   match ns,hn with
   |[n0],_=>exact⟨n0,rfl⟩
  have s0:a6 H H:=a6.refl H;refine⟨_,rfl,_,_,_,_,rfl,rfl,bD.of hl,ar (j:=0) rfl,?_⟩;refine⟨_,rfl,_,_,rfl,rfl,_,rfl,?_⟩;have ev:Sh11Neutral.eventOf [2,n0]=if n0≤10 then some (.bowler n0)else none:=rfl
  rw[ev]at k0;refine eM (fun h=>?_) (fun h=>?_)
  ·rw[if_neg (by have:=iA h;omega)]at k0;exact k0 H s0
  ·have hp:n0≤10:=by
    have:¬(11:Int)≤n0:=fun z=>h (decide_eq_true z)
    omega
   rw[if_pos hp]at k0
   cases hc:g.current with
   |none=>
    have k1:=k0 H s0;rw[lj (by simp only[aq.ab.act,hc])]at k1;exact⟨_,rfl,_,_,_,rfl,I.ob,aO,t,G,g,rfl,I,fun _=>⟨_,rfl,lZ ⟨_,rfl,k1⟩⟩,(fun i ps As A z=>by rw[hc]at z;cases z)⟩
   |some i=>
    refine⟨_,rfl,_,_,_,rfl,I.ob,aO,t,G,g,rfl,I,(fun z=>by rw[hc]at z;cases z),fun j ps As A hj e eA el J=>⟨_,rfl,bH (by rw[uM];rfl) ⟨_,rfl,_,_,_,rfl,I.ob,yN,_,rfl,t,G,g,i,n0,rfl,I,gd,hc,hp,fun H1 s1=>⟨_,rfl,?_⟩⟩⟩⟩;have k1:=k0 H1 s1
    cases hk:aq.ab.qp n0 i g.rules.most with
    |true=>
     rw[rF (g':=g.cb (aq.ak.cj n0)) (by simp only[aq.ab.act,hc,hk,if_true])]at k1;exact k1
    |false=>
     rw[lj (by simp only[aq.ab.act,hc,hk,Bool.false_eq_true,if_false])]at k1;exact k1
inductive Jd(a:Ad)(vs:List V)(H:Hp)(Q:VK):Prop
 |mk(t:Tag)(G:bE)(g:aq.ab)(l:Addr)(ns:List Nat)(_:vs=[.ref G.p,.ref l])(_:aL a H t G g)(_:Gd g)(_:H l=some (.lst (ib ns)))(_:ns.length=8)(_:∀ H',a6 H H'→Q (.int (vE g (Sh11Neutral.eventOf (3::ns)))) H')
def HE(a:Ad):Sp:=fun vs H Q _=>Jd a vs H Q
theorem AB:ao ["game","numbers","innings"] ["game","numbers"] (ai vQ):=⟨rfl,rfl,rfl,by decide +kernel,rfl,by decide +kernel,by decide +kernel⟩
theorem HJ(T:Txt K mg a):aZ P w K mg base cG 4 (a.f 95) (a.d 95) ["game","numbers"] (HE a):=by
 refine T.fn.wN.F.ok AB (fun vs H Q E h=>?_) (fun cdv A outer s H vs Q E hr h=>?_)
 ·obtain⟨t,G,g,l,ns,rfl,_⟩:=h;rfl
 ·obtain⟨t,G,g,l,ns,rfl,I,gd,hl,hn,k0⟩:=h;refine⟨_,(ae (bN (Es (dR (bC (Lf T) (hr.mono (by decide)) rfl T.fn.xE T.fn.AM.F.kp T.fn.AM.b au (aK (dh T.Ball.vg (zJ T) (hr.mono (by decide)) rfl T.Ball.AF T.Ball.we.b au (aK (pv 1) ah)) ah)))) (ag (ay (aN rfl T.fn.eN))) aY) (ae (aX (i:=2) AB.nd rfl (Or.inl rfl) (az (pv 0) T.ab.cl T.ab.bb (bj T) (hr.mono (by decide)) T.ab.bp.b .nil au )) (ag (ay (bC (gQ T) (hr.mono (by decide)) rfl T.fn.fJ T.fn.cz.F.kp T.fn.cz.b au (aK (du (bP (rh (pv 2))) (du (az (pv 2) T.Innings.cl T.Innings.bQ (c5 T) (hr.mono (by decide)) T.Innings.cx.b .nil au ) (eE (Bf (az (pv 2) T.Innings.cl T.Innings.bL (cK T) (hr.mono (by decide)) T.Innings.cq.b .nil au ))))) ah)))))),?_⟩;obtain⟨n0,n1,n2,n3,n4,n5,n6,n7,rfl⟩:∃ n0 n1 n2 n3 n4 n5 n6 n7:Nat,ns=[n0,n1,n2,n3,n4,n5,n6,n7]:=by
   match ns,hn with
   |[n0,n1,n2,n3,n4,n5,n6,n7],_=>exact⟨n0,n1,n2,n3,n4,n5,n6,n7,rfl⟩
  have s0:a6 H H:=a6.refl H;refine⟨_,rfl,fun q dq hq hdq _=>⟨q,dq,l,n0,n1,n2,n3,n4,n5,n6,n7,rfl,aa,?_,rfl,?_⟩⟩
  ·rw[ax (aQ hl hq),ax (aQ hl hdq)];exact hl
  have s1:a6 H _:=cJ (C:=a.c 0) (fs:=[]) (gs:=fG ⟨n0,n1,n2,n3,n4,n5,n6,n7⟩) hq hdq;have I1:=I.same s1;refine⟨_,_,_,rfl,aa,_,rfl,?_⟩;have ev:Sh11Neutral.eventOf [3,n0,n1,n2,n3,n4,n5,n6,n7]=if(⟨n0,n1,n2,n3,n4,n5,n6,n7⟩:Ball).ok=true then some (.ball ⟨n0,n1,n2,n3,n4,n5,n6,n7⟩)else none:=rfl
  rw[ev]at k0;have k1:=k0 _ s1
  cases hb:(⟨n0,n1,n2,n3,n4,n5,n6,n7⟩:Ball).ok with
  |false=>
   rw[hb]at k1;exact vD k1
  |true=>
   rw[hb]at k1;simp only[if_true]at k1;refine lZ ?_
   cases hc:g.current with
   |none=>
    rw[lj (by simp only[aq.ab.act,hc])]at k1;exact⟨_,rfl,_,_,_,rfl,I1.ob,aO,t,G,g,rfl,I1,fun _=>⟨_,rfl,_,rfl,lZ ⟨_,rfl,k1⟩⟩,(fun i ps As A z=>by rw[hc]at z;cases z)⟩
   |some i=>
    refine⟨_,rfl,_,_,_,rfl,I1.ob,aO,t,G,g,rfl,I1,(fun z=>by rw[hc]at z;cases z),fun j ps As A hj e eA el J=>?_⟩;rw[hc]at hj;cases hj;have hi:i∈g.played:=by rw[e];simp
    refine⟨_,rfl,_,rfl,bH (by rw[uM];rfl) ⟨_,rfl,_,_,_,rfl,J.ob,cD,_,_,_,_,rfl,J,_,rfl,?_⟩⟩;rw[N.tE (gd.ok i hi) (gd.ex i hi)];by_cases hw:i.bowler=11
    ·rw[lj (by simp only[aq.ab.act,hc];rw[if_pos (.inl hw)])]at k1;exact cw (by simp[hw]) ⟨_,rfl,k1⟩
    ·refine bH (by simp[hw]) ⟨_,rfl,_,_,_,rfl,J.ob,bY,_,_,_,_,rfl,J,_,rfl,_,rfl,?_⟩;have he:(N.proj i).aH=i.aH:=rfl;rw[he]
     cases hem:i.aH with
     |true=>
      rw[lj (by simp only[aq.ab.act,hc];rw[if_pos (.inr hem)])]at k1;exact k1
     |false=>
      rw[rF (g':=(g.cb (aq.ak.deliver ⟨n0,n1,n2,n3,n4,n5,n6,n7⟩)).aF) (by simp only[aq.ab.act,hc];rw[if_neg (by rw[hem];simp[hw])])]at k1;exact k1
inductive Bo(a:Ad)(vs:List V)(H:Hp)(Q:VK):Prop
 |mk(t:Tag)(G:bE)(g:aq.ab)(l:Addr)(ns:List Nat)(_:vs=[.ref G.p,.ref l])(_:aL a H t G g)(_:Gd g)(_:H l=some (.lst (ib ns)))(_:ns.length=1)(_:∀ H',a6 H H'→Q (.int (vE g (Sh11Neutral.eventOf (4::ns)))) H')
def AA(a:Ad):Sp:=fun vs H Q _=>Bo a vs H Q
theorem lK:ao ["game","numbers","player","innings"] ["game","numbers"] (ai mN):=⟨rfl,rfl,rfl,by decide +kernel,rfl,by decide +kernel,by decide +kernel⟩
theorem zo(T:Txt K mg a):aZ P w K mg base cG 3 (a.f 96) (a.d 96) ["game","numbers"] (AA a):=by
 refine T.fn.mz.F.ok lK (fun vs H Q E h=>?_) (fun cdv A outer s H vs Q E hr h=>?_)
 ·obtain⟨t,G,g,l,ns,rfl,_⟩:=h;rfl
 ·obtain⟨t,G,g,l,ns,rfl,I,gd,hl,hn,k0⟩:=h;refine⟨_,(ae (aX (i:=2) lK.nd rfl (Or.inl rfl) (aM aD (pv 1) aj (fun _ _=>rfl))) (ae (bN (aT (m9 (pv 2) (aN rfl T.fn.gz))) (ag (ay (aN rfl T.fn.eN))) aY) (ae (aX (i:=3) lK.nd rfl (Or.inl rfl) (az (pv 0) T.ab.cl T.ab.bb (bj T) (hr.mono (by decide)) T.ab.bp.b .nil au )) (ag (ay (bC (gQ T) (hr.mono (by decide)) rfl T.fn.fJ T.fn.cz.F.kp T.fn.cz.b au (aK (du (bP (rh (pv 3))) (du (az (pv 3) T.Innings.cl T.Innings.bL (cK T) (hr.mono (by decide)) T.Innings.cq.b .nil au ) (eE (aU (pv 3) T.Innings.cl T.Innings.ft (uG T) (hr.mono (by decide)) T.Innings.mh.b au (aK (pv 2) ah))))) ah))))))),?_⟩;obtain⟨n0,rfl⟩:∃ n0:Nat,ns=[n0]:=by
   match ns,hn with
   |[n0],_=>exact⟨n0,rfl⟩
  have s0:a6 H H:=a6.refl H;refine⟨_,rfl,_,_,_,_,rfl,rfl,bD.of hl,ar (j:=0) rfl,?_⟩;refine⟨_,rfl,_,_,rfl,rfl,_,rfl,?_⟩;have ev:Sh11Neutral.eventOf [4,n0]=if n0≤10 then some (.in_ n0)else none:=rfl
  rw[ev]at k0;have k1:=k0 H s0;refine eM (fun h=>?_) (fun h=>?_)
  ·rw[if_neg (by have:=iA h;omega)]at k1;exact k1
  ·have hp:n0≤10:=by
    have:¬(11:Int)≤n0:=fun z=>h (decide_eq_true z)
    omega
   rw[if_pos hp]at k1
   cases hc:g.current with
   |none=>
    rw[lj (by simp only[aq.ab.act,hc])]at k1;exact⟨_,rfl,_,_,_,rfl,I.ob,aO,t,G,g,rfl,I,fun _=>⟨_,rfl,_,rfl,lZ ⟨_,rfl,k1⟩⟩,(fun i ps As A z=>by rw[hc]at z;cases z)⟩
   |some i=>
    refine⟨_,rfl,_,_,_,rfl,I.ob,aO,t,G,g,rfl,I,(fun z=>by rw[hc]at z;cases z),fun j ps As A hj e eA el J=>?_⟩;rw[hc]at hj;cases hj;have hi:i∈g.played:=by rw[e];simp
    obtain⟨x,hx⟩:=aq.ak.ir (gd.ok i hi) hp;refine⟨_,rfl,_,rfl,bH (by rw[uM];rfl) ⟨_,rfl,_,_,_,rfl,J.ob,bY,_,_,_,_,rfl,J,_,rfl,?_⟩⟩;have he:(N.proj i).aH=i.aH:=rfl;rw[he]
    cases hem:i.aH with
    |false=>
     rw[lj (by simp only[aq.ab.act,hc];rw[if_pos (.inl hem)])]at k1;exact lZ ⟨_,rfl,k1⟩
    |true=>
     refine vD ⟨_,rfl,_,_,_,rfl,J.ob,sj,_,rfl,_,_,_,_,x,n0,rfl,J,hx,_,rfl,?_⟩
     cases hm:aq.bI x with
     |false=>
      rw[lj (by simp only[aq.ab.act,hc];rw[if_pos (.inr (by rw[hx];exact hm))])]at k1;exact k1
     |true=>
      rw[rF (g':=g.cb (aq.ak.gb n0)) (by simp only[aq.ab.act,hc];rw[if_neg (by rw[hx,hem];simp[hm])])]at k1;exact k1
inductive Cs(a:Ad)(vs:List V)(H:Hp)(Q:VK):Prop
 |mk(t:Tag)(G:bE)(g:aq.ab)(l:Addr)(ns:List Nat)(_:vs=[.ref G.p,.ref l])(_:aL a H t G g)(_:Gd g)(_:H l=some (.lst (ib ns)))(_:ns.length=2)(_:∀ H',a6 H H'→Q (.int (vE g (Sh11Neutral.eventOf (5::ns)))) H')
def Bp(a:Ad):Sp:=fun vs H Q _=>Cs a vs H Q
theorem tF:ao ["game","numbers","innings"] ["game","numbers"] (ai nI):=⟨rfl,rfl,rfl,by decide +kernel,rfl,by decide +kernel,by decide +kernel⟩
theorem Bh(T:Txt K mg a):aZ P w K mg base cG 2 (a.f 97) (a.d 97) ["game","numbers"] (Bp a):=by
 refine T.fn.nY.F.ok tF (fun vs H Q E h=>?_) (fun cdv A outer s H vs Q E hr h=>?_)
 ·obtain⟨t,G,g,l,ns,rfl,_⟩:=h;rfl
 ·obtain⟨t,G,g,l,ns,rfl,I,gd,hl,hn,k0⟩:=h;refine⟨_,(ae (bN (PW.pt (ny (aT (kT (aM aD (pv 1) aj (fun _ _=>rfl)) aj)) (qJ (aT (kT (aM aD (pv 1) aj (fun _ _=>rfl)) aj))))) (ag (ay (aN rfl T.fn.eN))) aY) (ae (aX (i:=2) tF.nd rfl (Or.inl rfl) (az (pv 0) T.ab.cl T.ab.bb (bj T) (hr.mono (by decide)) T.ab.bp.b .nil au )) (ag (ay (bC (gQ T) (hr.mono (by decide)) rfl T.fn.fJ T.fn.cz.F.kp T.fn.cz.b au (aK (du (bP (rh (pv 2))) (eE (Bf (az (pv 2) T.Innings.cl T.Innings.bL (cK T) (hr.mono (by decide)) T.Innings.cq.b .nil au )))) ah)))))),?_⟩;obtain⟨n0,n1,rfl⟩:∃ n0 n1:Nat,ns=[n0,n1]:=by
   match ns,hn with
   |[n0,n1],_=>exact⟨n0,n1,rfl⟩
  have s0:a6 H H:=a6.refl H;refine⟨_,rfl,_,_,_,_,rfl,rfl,bD.of hl,ar (j:=0) rfl,_,_,rfl,rfl,_,rfl,ts ?k1 fun k=>⟨_,rfl,_,_,_,_,rfl,rfl,bD.of hl,ar (j:=1) rfl,_,_,rfl,rfl,_,rfl,k⟩⟩;have ev:Sh11Neutral.eventOf [5,n0,n1]=if n0≤1∧n1≤1 then some (.retire n0 (n1==1))else none:=rfl
  rw[ev]at k0;have k1:=k0 H s0;refine eM (fun h=>?_) (fun h=>?_)
  ·rw[if_neg (by simp at h;omega)]at k1;exact k1
  ·rw[if_pos (by simp at h;omega)]at k1
   cases hc:g.current with
   |none=>
    rw[lj (by simp only[aq.ab.act,hc])]at k1;exact⟨_,rfl,_,_,_,rfl,I.ob,aO,t,G,g,rfl,I,fun _=>⟨_,rfl,_,rfl,lZ ⟨_,rfl,k1⟩⟩,(fun i ps As A z=>by rw[hc]at z;cases z)⟩
   |some i=>
    refine⟨_,rfl,_,_,_,rfl,I.ob,aO,t,G,g,rfl,I,(fun z=>by rw[hc]at z;cases z),fun j ps As A hj e eA el J=>?_⟩;rw[hc]at hj;cases hj;refine⟨_,rfl,_,rfl,bH (by rw[uM];rfl) ⟨_,rfl,_,_,_,rfl,J.ob,bY,_,_,_,_,rfl,J,_,rfl,_,rfl,?_⟩⟩;have he:(N.proj i).aH=i.aH:=rfl;rw[he]
    cases hem:i.aH with
    |true=>
     rw[lj (by simp only[aq.ab.act,hc];rw[if_pos hem])]at k1;exact k1
    |false=>
     rw[rF (g':=(g.cb (aq.ak.retire n0 (if(n1==1)=true then 1 else 0))).aF) (by simp only[aq.ab.act,hc];rw[if_neg (by rw[hem];decide)])]at k1;exact k1
inductive D0(a:Ad)(vs:List V)(H:Hp)(Q:VK):Prop
 |mk(t:Tag)(G:bE)(g:aq.ab)(l:Addr)(ns:List Nat)(_:vs=[.ref G.p,.ref l])(_:aL a H t G g)(_:Gd g)(_:H l=some (.lst (ib ns)))(_:ns.length=1)(_:∀ H',a6 H H'→Q (.int (vE g (Sh11Neutral.eventOf (6::ns)))) H')
def CH(a:Ad):Sp:=fun vs H Q _=>D0 a vs H Q
theorem CK:ao ["game","numbers"] ["game","numbers"] (ai pZ):=⟨rfl,rfl,rfl,by decide +kernel,rfl,by decide +kernel,by decide +kernel⟩
theorem CD(T:Txt K mg a):aZ P w K mg base cG 6 (a.f 98) (a.d 98) ["game","numbers"] (CH a):=by
 refine T.fn.qy.F.ok CK (fun vs H Q E h=>?_) (fun cdv A outer s H vs Q E hr h=>?_)
 ·obtain⟨t,G,g,l,ns,rfl,_⟩:=h;rfl
 ·obtain⟨t,G,g,l,ns,rfl,I,gd,hl,hn,k0⟩:=h;refine⟨_,(ae (bN (aT (kT (aM aD (pv 1) aj (fun _ _=>rfl)) aj)) (ag (ay (aN rfl T.fn.eN))) aY) (ag (ay (bC (gQ T) (hr.mono (by decide)) rfl T.fn.fJ T.fn.cz.F.kp T.fn.cz.b au (aK (Bf (az (pv 0) T.ab.cl T.ab.eZ (j4 T) (hr.mono (by decide)) T.ab.jk.b .nil au )) ah))))),?_⟩;obtain⟨n0,rfl⟩:∃ n0:Nat,ns=[n0]:=by
   match ns,hn with
   |[n0],_=>exact⟨n0,rfl⟩
  have s0:a6 H H:=a6.refl H;refine⟨_,rfl,_,_,_,_,rfl,rfl,bD.of hl,ar (j:=0) rfl,_,_,rfl,rfl,_,rfl,?_⟩;have ev:Sh11Neutral.eventOf [6,n0]=if n0≤1 then some (.penalty n0)else none:=rfl
  rw[ev]at k0;refine eM (fun h=>?_) (fun h=>?_)
  ·rw[if_neg (by have:=iA h;omega)]at k0;exact k0 H s0
  ·rw[if_pos (by have:¬(1:Int)<n0:=fun z=>h (decide_eq_true z);omega)]at k0;refine⟨_,rfl,_,_,_,rfl,I.ob,iM,t,G,g,rfl,I,gd,fun H1 s1=>⟨_,rfl,_,rfl,?_⟩⟩;have k1:=k0 H1 s1
   cases hv:g.bV with
   |true=>
    rw[lj (by simp only[aq.ab.act,hv,if_true])]at k1;exact k1
   |false=>
    rw[rF (g':=g.kj n0) (by simp only[aq.ab.act,hv,Bool.false_eq_true,if_false])]at k1;exact k1
inductive Eo(a:Ad)(vs:List V)(H:Hp)(Q:VK):Prop
 |mk(t:Tag)(G:bE)(g:aq.ab)(l:Addr)(ns:List Nat)(_:vs=[.ref G.p,.ref l])(_:aL a H t G g)(_:Gd g)(_:H l=some (.lst (ib ns)))(_:ns.length=0)(_:∀ H',a6 H H'→Q (.int (vE g (Sh11Neutral.eventOf (7::ns)))) H')
def Cr(a:Ad):Sp:=fun vs H Q _=>Eo a vs H Q
theorem CL:ao ["game","numbers"] ["game","numbers"] (ai qH):=⟨rfl,rfl,rfl,by decide +kernel,rfl,by decide +kernel,by decide +kernel⟩
theorem CB(T:Txt K mg a):aZ P w K mg base cG 4 (a.f 99) (a.d 99) ["game","numbers"] (Cr a):=by
 refine T.fn.pK.F.ok CL (fun vs H Q E h=>?_) (fun cdv A outer s H vs Q E hr h=>?_)
 ·obtain⟨t,G,g,l,ns,rfl,_⟩:=h;rfl
 ·obtain⟨t,G,g,l,ns,rfl,I,gd,hl,hn,k0⟩:=h;refine⟨_,(ag (ay (bC (gQ T) (hr.mono (by decide)) rfl T.fn.fJ T.fn.cz.F.kp T.fn.cz.b au (aK (du (bP (rh (az (pv 0) T.ab.cl T.ab.bb (bj T) (hr.mono (by decide)) T.ab.bp.b .nil au ))) (eE (bP (nK (az (pv 0) T.ab.cl T.ab.ez (nz T) (hr.mono (by decide)) T.ab.jK.b .nil au ) (aN rfl T.fn.pq))))) ah)))),?_⟩;obtain rfl:ns=[]:=List.length_eq_zero_iff.mp hn;have s0:a6 H H:=a6.refl H;have ev:Sh11Neutral.eventOf [7]=some .declare:=rfl;rw[ev]at k0
  cases hc:g.current with
  |none=>
   have k1:=k0 H s0;rw[lj (by simp only[aq.ab.act,hc])]at k1;exact⟨_,rfl,_,_,_,rfl,I.ob,aO,t,G,g,rfl,I,fun _=>⟨_,rfl,lZ ⟨_,rfl,k1⟩⟩,(fun i ps As A z=>by rw[hc]at z;cases z)⟩
  |some i=>
   refine⟨_,rfl,_,_,_,rfl,I.ob,aO,t,G,g,rfl,I,(fun z=>by rw[hc]at z;cases z),fun j ps As A hj e eA el J=>⟨_,rfl,bH (by rw[uM];rfl) ⟨_,rfl,_,_,_,rfl,I.ob,lW,t,G,g,i,rfl,I,gd,hc,fun H1 s1=>⟨_,_,rfl,rfl,_,rfl,?_⟩⟩⟩⟩;have k1:=k0 H1 s1;by_cases hz:g.b9 i=0
   ·rw[lj (by simp only[aq.ab.act,hc];rw[if_pos hz])]at k1;rw[hz];exact k1
   ·rw[rF (g':=g.cb fun j=>{ j with ended:=g.b9 i }) (by simp only[aq.ab.act,hc];rw[if_neg hz])]at k1;have e1:(if(!decide (((g.b9 i:Nat):Int)=0))=true then(0:Int)else -2)=0:=by simp[hz]
    rw[←e1]at k1;exact k1
inductive yn(a:Ad)(vs:List V)(H:Hp)(Q:VK):Prop
 |mk(t:Tag)(G:bE)(g:aq.ab)(l:Addr)(ns:List Nat)(_:vs=[.ref G.p,.ref l])(_:aL a H t G g)(_:Gd g)(_:H l=some (.lst (ib ns)))(_:ns.length=0)(_:∀ H',a6 H H'→Q (.int (vE g (Sh11Neutral.eventOf (8::ns)))) H')
def xj(a:Ad):Sp:=fun vs H Q _=>yn a vs H Q
theorem wA:ao ["game","numbers"] ["game","numbers"] (ai jH):=⟨rfl,rfl,rfl,by decide +kernel,rfl,by decide +kernel,by decide +kernel⟩
theorem xg(T:Txt K mg a):aZ P w K mg base cG 5 (a.f 100) (a.d 100) ["game","numbers"] (xj a):=by
 refine T.fn.jG.F.ok wA (fun vs H Q E h=>?_) (fun cdv A outer s H vs Q E hr h=>?_)
 ·obtain⟨t,G,g,l,ns,rfl,_⟩:=h;rfl
 ·obtain⟨t,G,g,l,ns,rfl,I,gd,hl,hn,k0⟩:=h;refine⟨_,(ag (ay (bC (gQ T) (hr.mono (by decide)) rfl T.fn.fJ T.fn.cz.F.kp T.fn.cz.b au (aK (az (pv 0) T.ab.cl T.ab.fL (vF T) (hr.mono (by decide)) T.ab.nh.b .nil au ) ah)))),?_⟩;obtain rfl:ns=[]:=List.length_eq_zero_iff.mp hn;have s0:a6 H H:=a6.refl H;have ev:Sh11Neutral.eventOf [8]=some .follow:=rfl;rw[ev]at k0;refine⟨_,rfl,_,_,_,rfl,I.ob,sR,t,G,g,rfl,I,gd,fun H1 s1=>⟨_,rfl,?_⟩⟩;have k1:=k0 H1 s1
  cases hv:g.mM with
  |true=>
   rw[rF (g':={ g with followed:=true }) (by simp only[aq.ab.act,hv,if_true])]at k1;exact k1
  |false=>
   rw[lj (by simp only[aq.ab.act,hv,Bool.false_eq_true,if_false])]at k1;exact k1
inductive EC(a:Ad)(vs:List V)(H:Hp)(Q:VK):Prop
 |mk(t:Tag)(G:bE)(g:aq.ab)(l:Addr)(ns:List Nat)(_:vs=[.ref G.p,.ref l])(_:aL a H t G g)(_:Gd g)(_:H l=some (.lst (ib ns)))(_:ns.length=0)(_:∀ H',a6 H H'→Q (.int (vE g (Sh11Neutral.eventOf (9::ns)))) H')
def CQ(a:Ad):Sp:=fun vs H Q _=>EC a vs H Q
theorem C4:ao ["game","numbers"] ["game","numbers"] (ai qI):=⟨rfl,rfl,rfl,by decide +kernel,rfl,by decide +kernel,by decide +kernel⟩
theorem CI(T:Txt K mg a):aZ P w K mg base cG 7 (a.f 101) (a.d 101) ["game","numbers"] (CQ a):=by
 refine T.fn.pP.F.ok C4 (fun vs H Q E h=>?_) (fun cdv A outer s H vs Q E hr h=>?_)
 ·obtain⟨t,G,g,l,ns,rfl,_⟩:=h;rfl
 ·obtain⟨t,G,g,l,ns,rfl,I,gd,hl,hn,k0⟩:=h;refine⟨_,(ag (ay (bC (gQ T) (hr.mono (by decide)) rfl T.fn.fJ T.fn.cz.F.kp T.fn.cz.b au (aK (az (pv 0) T.ab.cl T.ab.gp (w4 T) (hr.mono (by decide)) T.ab.oH.b .nil au ) ah)))),?_⟩;obtain rfl:ns=[]:=List.length_eq_zero_iff.mp hn;have s0:a6 H H:=a6.refl H;have ev:Sh11Neutral.eventOf [9]=some .draw:=rfl;rw[ev]at k0;refine⟨_,rfl,_,_,_,rfl,I.ob,ui,t,G,g,rfl,I,gd,fun H1 s1=>⟨_,rfl,?_⟩⟩;have k1:=k0 H1 s1
  cases hv:g.zK with
  |true=>
   rw[rF (g':=g.pj) (by simp only[aq.ab.act,hv,if_true])]at k1;exact k1
  |false=>
   rw[lj (by simp only[aq.ab.act,hv,Bool.false_eq_true,if_false])]at k1;exact k1
end
end Sb
namespace Sb
open PySem L2
open Sh11 (Ball)
section
variable{P:Program}{w:World}{K:PySem.W.Frag}{mg:Str→Option Value}{base:Heap}{a:Ad}
theorem Eh{i:aq.ak}{m:Nat}(hm:m≤100000)(ok:i.Ok)(ex:N.Ex i)(sz:N.so m i):HY (N.proj i)∧(N.proj i).stands.length+1<1000000∧(N.proj i).told.length+1<1000000∧(N.proj i).falls.length+1<1000000:=by
 have h1:(N.proj i).overs.length≤m:=by show(N.kD 0 i.overs).length≤m;rw[N.DR];exact sz.ov
 have h2:(N.proj i).told.length≤7*m+1:=by
  have a1:=N.Pm i;have a2:=sz.w;show(N.bg i.overs).length≤_
  split at a2<;>omega
 have h3:(N.proj i).falls.length≤10:=by
  have:=N.DD ok ex;rw[←ex.falls]at this;exact this
 have h4:(N.proj i).stands.length≤m+1:=sz.st;have h5:(N.proj i).bats.length=11:=ok.bats;have h6:(N.proj i).aI.length=11:=by show(i.aI.map _).length=11;rw[List.length_map];exact ok.aI
 exact⟨⟨by omega,by omega,by omega,by omega,h5,h6⟩,by omega,by omega,by omega⟩
theorem LB{g:aq.ab}{m:Nat}(hm:m≤100000)(ok:∀ i∈g.played,i.Ok)(ex:∀ i∈g.played,N.Ex i)(sz:∀ i∈g.played,N.so m i)(sd:∀ i∈g.played,i.side≤1)(len:g.played.length≤4):Gd g:=
 ⟨ok,ex,fun i hi=>(Eh hm (ok i hi) (ex i hi) (sz i hi)).1,fun i hi=>(Eh hm (ok i hi) (ex i hi) (sz i hi)).2,sd,len⟩
theorem Qx{g:aq.ab}(h:g.Ok):g.played.length≤4:=by
 have hr:=h.rules;unfold Sh11.Rules.ok at hr;rw[decide_eq_true_eq]at hr;have:=h.AE;omega
theorem i4{g:aq.ab}{n:Nat}{r:Sh11.Rules}(hn:n≤100000)(h:N.Sound n r g):Gd g:=LB hn h.ok.iT h.ex h.size (fun i hi=>N.ux h hi) (Qx h.ok)
theorem LU{g:aq.ab}{n:Nat}{r:Sh11.Rules}(hn:n+1≤100000)(h:N.Sound n r g){ps:List aq.ak}{i i':aq.ak}(e:g.played=ps++[i])(ok:i'.Ok)(ex:N.Ex i')(sz:N.so (n+1) i')(sd:i'.side=i.side):Gd { g with played:=ps++[i'] }:=by
 have hm:∀ j∈ps++[i'],j∈g.played∨j=i':=fun j hj=>by
  rcases List.mem_append.mp hj with z|z
  ·exact .inl (by rw[e];exact List.mem_append_left _ z)
  ·exact .inr (List.mem_singleton.mp z)
 have l4:=Qx h.ok;refine LB hn (fun j hj=>?_) (fun j hj=>?_) (fun j hj=>?_) (fun j hj=>?_) ?_
 ·rcases hm j hj with z|z
  ·exact h.ok.iT j z
  ·rw[z];exact ok
 ·rcases hm j hj with z|z
  ·exact h.ex j z
  ·rw[z];exact ex
 ·rcases hm j hj with z|z
  ·exact (h.size j z).up
  ·rw[z];exact sz
 ·rcases hm j hj with z|z
  ·exact N.ux h z
  ·rw[z,sd];exact N.ux h (by rw[e];simp)
 ·show(ps++[i']).length≤4;rw[e]at l4
  simpa using l4
theorem Pu{g:aq.ab}{n:Nat}{r:Sh11.Rules}(hn:n≤100000)(h:N.Sound n r g)(k:Nat):Gd { g with played:=g.played.modify k (aq.ak.bK 5) }:=by
 refine LB hn (aq.mem_modify h.ok.iT fun i hi=>aq.ak.EX (h.ok.iT i (List.mem_of_getElem? hi)) 5) (aq.mem_modify h.ex fun i hi=>N.Ey (h.ex i (List.mem_of_getElem? hi)) 5) (aq.mem_modify h.size fun i hi=>?_) (aq.mem_modify (fun i hi=>N.ux h hi) fun i hi=>(show i.side≤1 from N.ux h (List.mem_of_getElem? hi))) ?_
 ·have:=h.size i (List.mem_of_getElem? hi);exact⟨this.w,this.ov,this.st⟩
 ·show(g.played.modify k _).length≤4;rw[List.length_modify];exact Qx h.ok
theorem O3{g:aq.ab}{n:Nat}{r:Sh11.Rules}(hn:n≤100000)(h:N.Sound n r g){s o:Nat}(hs:s≤10)(ho:o≤10)(hne:s≠o)(hc:g.current=none)(hv:g.bV=false) :
  Gd { g.eQ g.aS 0 with played:=g.played++[aq.ak.opened g.aS g.rules.balls (g.eO g.aS) s o] }∧g.aS≤1:=by
 have hp:=(aq.ab.Jw h.ok hs ho hne hc hv).1;have hr:=h.ok.rules;unfold Sh11.Rules.ok at hr;rw[decide_eq_true_eq]at hr;have hf:=hp.AE;have hlt:g.played.length<2*g.rules.sides:=by
  have hf':(g.played++[_]).length≤2*g.rules.sides:=hf;simp at hf';omega
 have en:=(aq.ab.LX h.ok hlt).2;have isd:(aq.ak.opened g.aS g.rules.balls (g.eO g.aS) s o).side=g.aS:=by rw[aq.ak.fN]
 refine⟨LB hn hp.iT (fun j hj=>?_) (fun j hj=>?_) (fun j hj=>?_) ?_,en⟩
 ·rcases List.mem_append.mp hj with z|z
  ·exact h.ex j z
  ·rw[List.mem_singleton.mp z];exact N.BA hs
 ·rcases List.mem_append.mp hj with z|z
  ·exact h.size j z
  ·rw[List.mem_singleton.mp z];exact N.vS
 ·rcases List.mem_append.mp hj with z|z
  ·exact N.ux h z
  ·rw[List.mem_singleton.mp z,isd];exact en
 ·show(g.played++[_]).length≤4;simp;omega
theorem NF{i:aq.ak}{b:Ball}{m:Nat}(hm:m≤100000)(ok:i.Ok)(ex:N.Ex i)(sz:N.so m i)(hb:aq.ku b)(h0:i.e0≠11)(h1:i.e1≠11)(hw:i.bowler≠11):Ready (N.proj i) b:=by
 obtain⟨os,x,eo,ew,hx⟩:=ok.over hw;have fm:=Eh hm ok ex sz;refine⟨hb,by rw[N.tE ok ex];exact decide_eq_true hw,?_,?_,?_,?_,⟨fm.2.2.1,fm.2.2.2⟩⟩
 ·have e1:(N.proj i).overs=N.kD 0 os++[⟨x.bowler,0+(N.bg os).length,x.balls,x.runs⟩]:=by show N.kD 0 i.overs=_;rw[eo,N.qC]
  have hx10:=ex.GK x (by rw[eo];simp);exact⟨_,_,_,e1,List.getElem?_eq_getElem (by rw[fm.1.aI];show x.bowler<11;omega)⟩
 ·rcases aq.a8 i.stands with z|⟨ps,s,z⟩
  ·exact absurd z ok.stands
  ·exact⟨ps,s,z⟩
 ·exact aq.ak.ir ok (by have:=ok.e0;show i.e0≤10;omega)
 ·exact aq.ak.ir ok (by have:=ok.e1;show i.e1≤10;omega)
inductive E9(a:Ad)(vs:List V)(H:Hp)(Q:VK):Prop
 |mk(t:Tag)(G:bE)(g g':aq.ab)(l:Addr)(ns:List Nat)(e:Sh11.Event)(n:Nat)(r:Sh11.Rules)(_:vs=[.ref G.p,.ref l])(_:aL a H t G g)(_:Fr H t)(_:N.Sound n r g)(_:n≤40000)(_:H l=some (.lst (ib ns)))(_:ns.length=2)(_:Sh11Neutral.eventOf (1::ns)=some e)(_:g.act e=some g')(_:tD a H t G g' (Q .non))
def CG(a:Ad):Sp:=fun vs H Q _=>E9 a vs H Q
theorem Dm:ao ["game","numbers"] ["game","numbers"] (ai qh):=⟨rfl,rfl,rfl,by decide +kernel,rfl,by decide +kernel,by decide +kernel⟩
theorem Dd(T:Txt K mg a):aZ P w K mg base cG 8 (a.f 106) (a.d 106) ["game","numbers"] (CG a):=by
 refine T.fn.qm.F.ok Dm (fun vs H Q E h=>?_) (fun cdv A outer s H vs Q E hr h=>?_)
 ·obtain⟨t,G,g,g',l,ns,ev,n,r,rfl,_⟩:=h;rfl
 ·obtain⟨t,G,g,g',l,ns,ev,n,r,rfl,I,fr,sd,hn4,hl,hn,hev,ha,k0⟩:=h;refine⟨_,(ag (br (aU (pv 0) T.ab.cl T.ab.fM (vo T) (hr.mono (by decide)) T.ab.nB.b au (aK (aM aD (pv 1) aj (fun _ _=>rfl)) (aK (aM aD (pv 1) aj (fun _ _=>rfl)) ah))))),?_⟩;obtain⟨n0,n1,rfl⟩:∃ n0 n1:Nat,ns=[n0,n1]:=by
   match ns,hn with
   |[n0,n1],_=>exact⟨n0,n1,rfl⟩
  have gd:=i4 (by omega) sd;have e1:Sh11Neutral.eventOf [1,n0,n1]=if n0≤10∧n1≤10∧n0≠n1 then some (.open_ n0 n1)else none:=rfl
  rw[e1]at hev
  split at hev
  ·rename_i hc3;cases hev;simp only[aq.ab.act]at ha
   split at ha
   ·cases ha
   ·rename_i hno;cases ha;have hc:g.current=none:=by
     cases z:g.current with
     |none=>rfl
     |some i=>exact absurd (.inl (by rw[z];rfl)) hno
    have hv:g.bV=false:=by
     cases z:g.bV with
     |false=>rfl
     |true=>exact absurd (.inr z) hno
    obtain⟨gd2,h1⟩:=O3 (by omega) sd hc3.1 hc3.2.1 hc3.2.2 hc hv;exact⟨_,rfl,_,_,_,rfl,I.ob,sP,_,rfl,_,_,_,_,rfl,rfl,bD.of hl,ar (j:=0) rfl,_,rfl,_,_,_,_,rfl,rfl,bD.of hl,ar (j:=1) rfl,t,G,g,n0,n1,rfl,I,fr,hc3.1,hc3.2.1,hc3.2.2,h1,gd.len,gd2,k0⟩
  ·cases hev
inductive FP(a:Ad)(vs:List V)(H:Hp)(Q:VK):Prop
 |mk(t:Tag)(G:bE)(g g':aq.ab)(l:Addr)(ns:List Nat)(e:Sh11.Event)(n:Nat)(r:Sh11.Rules)(_:vs=[.ref G.p,.ref l])(_:aL a H t G g)(_:Fr H t)(_:N.Sound n r g)(_:n≤40000)(_:H l=some (.lst (ib ns)))(_:ns.length=1)(_:Sh11Neutral.eventOf (2::ns)=some e)(_:g.act e=some g')(_:tD a H t G g' (Q .non))
def DL(a:Ad):Sp:=fun vs H Q _=>FP a vs H Q
theorem ED:ao ["game","numbers"] ["game","numbers"] (ai rM):=⟨rfl,rfl,rfl,by decide +kernel,rfl,by decide +kernel,by decide +kernel⟩
theorem Fe(T:Txt K mg a):aZ P w K mg base cG 4 (a.f 107) (a.d 107) ["game","numbers"] (DL a):=by
 refine T.fn.rY.F.ok ED (fun vs H Q E h=>?_) (fun cdv A outer s H vs Q E hr h=>?_)
 ·obtain⟨t,G,g,g',l,ns,ev,n,r,rfl,_⟩:=h;rfl
 ·obtain⟨t,G,g,g',l,ns,ev,n,r,rfl,I,fr,sd,hn4,hl,hn,hev,ha,k0⟩:=h;refine⟨_,(ag (br (aU (az (pv 0) T.ab.cl T.ab.bb (bj T) (hr.mono (by decide)) T.ab.bp.b .nil au ) T.Innings.cl T.Innings.fS (vp T) (hr.mono (by decide)) T.Innings.nj.b au (aK (aM aD (pv 1) aj (fun _ _=>rfl)) ah)))),?_⟩;obtain⟨n0,rfl⟩:∃ n0:Nat,ns=[n0]:=by
   match ns,hn with
   |[n0],_=>exact⟨n0,rfl⟩
  have gd:=i4 (by omega) sd;have e1:Sh11Neutral.eventOf [2,n0]=if n0≤10 then some (.bowler n0)else none:=rfl
  rw[e1]at hev
  split at hev
  ·rename_i hp;cases hev;simp only[aq.ab.act]at ha
   cases hc:g.current with
   |none=>rw[hc]at ha;cases ha
   |some i=>
    rw[hc]at ha;simp only[]at ha
    split at ha
    ·cases ha;refine⟨_,rfl,_,_,_,rfl,I.ob,aO,t,G,g,rfl,I,(fun z=>by rw[hc]at z;cases z),fun j ps As A hj e eA el J=>?_⟩;rw[hc]at hj;cases hj;have hi:i∈g.played:=by rw[e];simp
     refine⟨_,_,_,rfl,J.ob,sL,_,rfl,_,_,_,_,rfl,rfl,bD.of hl,ar (j:=0) rfl,t,_,A,_,n0,rfl,J,fr,gd.AE i hi,fun H1 t1 A1 eA1 st1 J1=>?_⟩;rw[←N.wq]at J1;obtain⟨I1,st2,ex⟩:=I.Bt e eA el st1 eA1 J1;rw[aq.ab.aG e]at k0;exact k0.go I1 st2 ex rfl
    ·cases ha
  ·cases hev
inductive ID(a:Ad)(vs:List V)(H:Hp)(Q:VK):Prop
 |mk(t:Tag)(G:bE)(g g':aq.ab)(l:Addr)(ns:List Nat)(e:Sh11.Event)(n:Nat)(r:Sh11.Rules)(_:vs=[.ref G.p,.ref l])(_:aL a H t G g)(_:Fr H t)(_:N.Sound n r g)(_:n≤40000)(_:H l=some (.lst (ib ns)))(_:ns.length=8)(_:Sh11Neutral.eventOf (3::ns)=some e)(_:g.act e=some g')(_:tD a H t G g' (Q .non))
def G9(a:Ad):Sp:=fun vs H Q _=>ID a vs H Q
theorem Ho:ao ["game","numbers"] ["game","numbers"] (ai wF):=⟨rfl,rfl,rfl,by decide +kernel,rfl,by decide +kernel,by decide +kernel⟩
theorem HL(T:Txt K mg a):aZ P w K mg base cG 9 (a.f 108) (a.d 108) ["game","numbers"] (G9 a):=by
 refine T.fn.wW.F.ok Ho (fun vs H Q E h=>?_) (fun cdv A outer s H vs Q E hr h=>?_)
 ·obtain⟨t,G,g,g',l,ns,ev,n,r,rfl,_⟩:=h;rfl
 ·obtain⟨t,G,g,g',l,ns,ev,n,r,rfl,I,fr,sd,hn4,hl,hn,hev,ha,k0⟩:=h;refine⟨_,(ag (br (aU (pv 0) T.ab.cl T.ab.lb (Cp T) (hr.mono (by decide)) T.ab.wD.b au (aK (dh T.Ball.vg (zJ T) (hr.mono (by decide)) rfl T.Ball.AF T.Ball.we.b au (aK (pv 1) ah)) ah)))),?_⟩;obtain⟨n0,n1,n2,n3,n4,n5,n6,n7,rfl⟩:∃ n0 n1 n2 n3 n4 n5 n6 n7:Nat,ns=[n0,n1,n2,n3,n4,n5,n6,n7]:=by
   match ns,hn with
   |[n0,n1,n2,n3,n4,n5,n6,n7],_=>exact⟨n0,n1,n2,n3,n4,n5,n6,n7,rfl⟩
  have gd:=i4 (by omega) sd;have e1:Sh11Neutral.eventOf [3,n0,n1,n2,n3,n4,n5,n6,n7]=if(⟨n0,n1,n2,n3,n4,n5,n6,n7⟩:Ball).ok=true then some (.ball ⟨n0,n1,n2,n3,n4,n5,n6,n7⟩)else none:=rfl
  rw[e1]at hev
  split at hev
  ·rename_i hb;cases hev;simp only[aq.ab.act]at ha
   cases hc:g.current with
   |none=>rw[hc]at ha;cases ha
   |some i=>
    rw[hc]at ha;simp only[]at ha
    split at ha
    ·cases ha
    ·rename_i hno;cases ha;obtain⟨ps,e,_⟩:=aq.ab.j3 hc;have hi:i∈g.played:=by rw[e];simp
     have hw:i.bowler≠11:=fun z=>hno (.inl z)
     have hem:i.aH=false:=by
      cases q:i.aH with
      |false=>rfl
      |true=>exact absurd (.inr q) hno
     obtain⟨h0,h1⟩:=aq.ab.empty_false hem;have bo:=aq.Kj hb;have rd:=NF (by omega) (sd.ok.iT i hi) (sd.ex i hi) (sd.size i hi) bo h0 h1 hw;have gd2:Gd (g.cb (aq.ak.deliver ⟨n0,n1,n2,n3,n4,n5,n6,n7⟩)):=by
      rw[aq.ab.aG e];exact LU (by omega) sd e (aq.ak.EU (sd.ok.iT i hi) bo h0 h1 hw) (N.EK (sd.ok.iT i hi) (sd.ex i hi) bo h0 h1 hw) (N.zy (sd.ok.iT i hi) bo h0 h1 hw (sd.size i hi)) (aq.ab.tU i _ (sd.ok.iT i hi) hw).1
     refine⟨_,rfl,_,_,_,rfl,I.ob,z8,_,rfl,fun q dq hq hdq _=>⟨q,dq,l,n0,n1,n2,n3,n4,n5,n6,n7,rfl,aa,?_,rfl,?_⟩⟩
     ·rw[ax (aQ hl hq),ax (aQ hl hdq)];exact hl
     ·have s1:a6 H _:=cJ (C:=a.c 0) (fs:=[]) (gs:=fG ⟨n0,n1,n2,n3,n4,n5,n6,n7⟩) hq hdq;exact⟨t,G,g,i,_,_,_,rfl,I.same s1,a6.fr s1 fr,gd,hc,aa,fr q hq,rd,hw,gd2,fun H2 t2 G2 e2 st2 ex2 I2=>k0.go I2 ((Step.same s1).trans st2) ex2 e2⟩
  ·cases hev
inductive L5(a:Ad)(vs:List V)(H:Hp)(Q:VK):Prop
 |mk(t:Tag)(G:bE)(g g':aq.ab)(l:Addr)(ns:List Nat)(e:Sh11.Event)(n:Nat)(r:Sh11.Rules)(_:vs=[.ref G.p,.ref l])(_:aL a H t G g)(_:Fr H t)(_:N.Sound n r g)(_:n≤40000)(_:H l=some (.lst (ib ns)))(_:ns.length=1)(_:Sh11Neutral.eventOf (4::ns)=some e)(_:g.act e=some g')(_:tD a H t G g' (Q .non))
def KI(a:Ad):Sp:=fun vs H Q _=>L5 a vs H Q
theorem Lp:ao ["game","numbers"] ["game","numbers"] (ai BQ):=⟨rfl,rfl,rfl,by decide +kernel,rfl,by decide +kernel,by decide +kernel⟩
theorem KD(T:Txt K mg a):aZ P w K mg base cG 6 (a.f 109) (a.d 109) ["game","numbers"] (KI a):=by
 refine T.fn.AW.F.ok Lp (fun vs H Q E h=>?_) (fun cdv A outer s H vs Q E hr h=>?_)
 ·obtain⟨t,G,g,g',l,ns,ev,n,r,rfl,_⟩:=h;rfl
 ·obtain⟨t,G,g,g',l,ns,ev,n,r,rfl,I,fr,sd,hn4,hl,hn,hev,ha,k0⟩:=h;refine⟨_,(ag (br (aU (az (pv 0) T.ab.cl T.ab.bb (bj T) (hr.mono (by decide)) T.ab.bp.b .nil au ) T.Innings.cl T.Innings.iQ (yZ T) (hr.mono (by decide)) T.Innings.rq.b au (aK (aM aD (pv 1) aj (fun _ _=>rfl)) ah)))),?_⟩;obtain⟨n0,rfl⟩:∃ n0:Nat,ns=[n0]:=by
   match ns,hn with
   |[n0],_=>exact⟨n0,rfl⟩
  have gd:=i4 (by omega) sd;have e1:Sh11Neutral.eventOf [4,n0]=if n0≤10 then some (.in_ n0)else none:=rfl
  rw[e1]at hev
  split at hev
  ·rename_i hp;cases hev;simp only[aq.ab.act]at ha
   cases hc:g.current with
   |none=>rw[hc]at ha;cases ha
   |some i=>
    rw[hc]at ha;simp only[]at ha
    split at ha
    ·cases ha
    ·rename_i hno;cases ha;refine⟨_,rfl,_,_,_,rfl,I.ob,aO,t,G,g,rfl,I,(fun z=>by rw[hc]at z;cases z),fun j ps As A hj e eA el J=>?_⟩;rw[hc]at hj;cases hj;have hi:i∈g.played:=by rw[e];simp
     obtain⟨x,hx⟩:=aq.ak.ir (gd.ok i hi) hp;have hm:∀ y,i.bats[n0]?=some y→aq.bI y=true:=fun y hy=>by
      cases q:aq.bI y with
      |true=>rfl
      |false=>exact absurd (.inr (by rw[hy];exact q)) hno
     have hem:i.aH=true:=by
      cases q:i.aH with
      |true=>rfl
      |false=>exact absurd (.inl q) hno
     refine⟨_,_,_,rfl,J.ob,xa,_,rfl,_,_,_,_,rfl,rfl,bD.of hl,ar (j:=0) rfl,t,_,A,_,x,n0,rfl,J,fr,gd.AE i hi,(gd.more i hi).1,hx,hem,fun H1 t1 A1 eA1 st1 J1=>?_⟩;rw[←N.BZ (gd.ok i hi) hp hm]at J1;obtain⟨I1,st2,ex⟩:=I.Bt e eA el st1 eA1 J1;rw[aq.ab.aG e]at k0;exact k0.go I1 st2 ex rfl
  ·cases hev
inductive Nv(a:Ad)(vs:List V)(H:Hp)(Q:VK):Prop
 |mk(t:Tag)(G:bE)(g g':aq.ab)(l:Addr)(ns:List Nat)(e:Sh11.Event)(n:Nat)(r:Sh11.Rules)(_:vs=[.ref G.p,.ref l])(_:aL a H t G g)(_:Fr H t)(_:N.Sound n r g)(_:n≤40000)(_:H l=some (.lst (ib ns)))(_:ns.length=2)(_:Sh11Neutral.eventOf (5::ns)=some e)(_:g.act e=some g')(_:tD a H t G g' (Q .non))
def Mx(a:Ad):Sp:=fun vs H Q _=>Nv a vs H Q
theorem Mb:ao ["game","numbers"] ["game","numbers"] (ai DU):=⟨rfl,rfl,rfl,by decide +kernel,rfl,by decide +kernel,by decide +kernel⟩
theorem Mp(T:Txt K mg a):aZ P w K mg base cG 7 (a.f 110) (a.d 110) ["game","numbers"] (Mx a):=by
 refine T.fn.DZ.F.ok Mb (fun vs H Q E h=>?_) (fun cdv A outer s H vs Q E hr h=>?_)
 ·obtain⟨t,G,g,g',l,ns,ev,n,r,rfl,_⟩:=h;rfl
 ·obtain⟨t,G,g,g',l,ns,ev,n,r,rfl,I,fr,sd,hn4,hl,hn,hev,ha,k0⟩:=h;refine⟨_,(ag (br (aU (pv 0) T.ab.cl T.ab.mV (EH T) (hr.mono (by decide)) T.ab.yu.b au (aK (aM aD (pv 1) aj (fun _ _=>rfl)) (aK (aM aD (pv 1) aj (fun _ _=>rfl)) ah))))),?_⟩;obtain⟨n0,n1,rfl⟩:∃ n0 n1:Nat,ns=[n0,n1]:=by
   match ns,hn with
   |[n0,n1],_=>exact⟨n0,n1,rfl⟩
  have gd:=i4 (by omega) sd;have e1:Sh11Neutral.eventOf [5,n0,n1]=if n0≤1∧n1≤1 then some (.retire n0 (n1==1))else none:=rfl
  rw[e1]at hev
  split at hev
  ·rename_i hp;cases hev;simp only[aq.ab.act]at ha
   cases hc:g.current with
   |none=>rw[hc]at ha;cases ha
   |some i=>
    rw[hc]at ha;simp only[]at ha
    split at ha
    ·cases ha
    ·rename_i hno;cases ha;obtain⟨ps,e,_⟩:=aq.ab.j3 hc;have hi:i∈g.played:=by rw[e];simp
     have hem:i.aH=false:=by
      cases q:i.aH with
      |false=>rfl
      |true=>exact absurd q hno
     obtain⟨h0,h1⟩:=aq.ab.empty_false hem;have en:(if(n1==1)=true then 1 else 0)=n1:=by
      have:n1=0∨n1=1:=by omega
      rcases this with z|z<;>rw[z]<;>rfl
     rw[en]at k0;have gd2:Gd (g.cb (aq.ak.retire n0 n1)):=by
      rw[aq.ab.aG e];refine LU (by omega) sd e (aq.ak.Gg (sd.ok.iT i hi) h0 h1) (N.Gb (sd.ex i hi) h0 h1 _ _) (N.BS (sd.size i hi)) ?_;unfold aq.ak.retire;by_cases z:n1=1<;>simp[z,aq.ak.lH]
     obtain⟨x,hx⟩:∃ x,i.bats[if n0=0 then i.e0 else i.e1]?=some x:=by
      split
      ·exact aq.ak.ir (sd.ok.iT i hi) (by have:=(sd.ok.iT i hi).e0;omega)
      ·exact aq.ak.ir (sd.ok.iT i hi) (by have:=(sd.ok.iT i hi).e1;omega)
     exact⟨_,rfl,_,_,_,rfl,I.ob,AH,_,rfl,_,_,_,_,rfl,rfl,bD.of hl,ar (j:=0) rfl,_,rfl,_,_,_,_,rfl,rfl,bD.of hl,ar (j:=1) rfl,t,G,g,i,x,n0,n1,rfl,I,fr,gd,hc,hp.1,hx,gd2,k0⟩
  ·cases hev
inductive Mu(a:Ad)(vs:List V)(H:Hp)(Q:VK):Prop
 |mk(t:Tag)(G:bE)(g g':aq.ab)(l:Addr)(ns:List Nat)(e:Sh11.Event)(n:Nat)(r:Sh11.Rules)(_:vs=[.ref G.p,.ref l])(_:aL a H t G g)(_:Fr H t)(_:N.Sound n r g)(_:n≤40000)(_:H l=some (.lst (ib ns)))(_:ns.length=1)(_:Sh11Neutral.eventOf (6::ns)=some e)(_:g.act e=some g')(_:tD a H t G g' (Q .non))
def JX(a:Ad):Sp:=fun vs H Q _=>Mu a vs H Q
theorem Ks:ao ["game","numbers"] ["game","numbers"] (ai BJ):=⟨rfl,rfl,rfl,by decide +kernel,rfl,by decide +kernel,by decide +kernel⟩
theorem JS(T:Txt K mg a):aZ P w K mg base cG 6 (a.f 111) (a.d 111) ["game","numbers"] (JX a):=by
 refine T.fn.A8.F.ok Ks (fun vs H Q E h=>?_) (fun cdv A outer s H vs Q E hr h=>?_)
 ·obtain⟨t,G,g,g',l,ns,ev,n,r,rfl,_⟩:=h;rfl
 ·obtain⟨t,G,g,g',l,ns,ev,n,r,rfl,I,fr,sd,hn4,hl,hn,hev,ha,k0⟩:=h;refine⟨_,(ag (br (aU (pv 0) T.ab.cl T.ab.hC (xS T) (hr.mono (by decide)) T.ab.qg.b au (aK (aM aD (pv 1) aj (fun _ _=>rfl)) ah)))),?_⟩;obtain⟨n0,rfl⟩:∃ n0:Nat,ns=[n0]:=by
   match ns,hn with
   |[n0],_=>exact⟨n0,rfl⟩
  have gd:=i4 (by omega) sd;have e1:Sh11Neutral.eventOf [6,n0]=if n0≤1 then some (.penalty n0)else none:=rfl
  rw[e1]at hev
  split at hev
  ·rename_i hp;cases hev;simp only[aq.ab.act]at ha
   split at ha
   ·cases ha
   ·cases ha;exact⟨_,rfl,_,_,_,rfl,I.ob,vB,_,rfl,_,_,_,_,rfl,rfl,bD.of hl,ar (j:=0) rfl,t,G,g,n0,rfl,I,fr,gd,hp,fun k=>Pu (by omega) sd k,k0⟩
  ·cases hev
inductive MM(a:Ad)(vs:List V)(H:Hp)(Q:VK):Prop
 |mk(t:Tag)(G:bE)(g g':aq.ab)(l:Addr)(ns:List Nat)(e:Sh11.Event)(n:Nat)(r:Sh11.Rules)(_:vs=[.ref G.p,.ref l])(_:aL a H t G g)(_:Fr H t)(_:N.Sound n r g)(_:n≤40000)(_:H l=some (.lst (ib ns)))(_:ns.length=0)(_:Sh11Neutral.eventOf (7::ns)=some e)(_:g.act e=some g')(_:tD a H t G g' (Q .non))
def JW(a:Ad):Sp:=fun vs H Q _=>MM a vs H Q
theorem KC:ao ["game","numbers"] ["game","numbers"] (ai AL):=⟨rfl,rfl,rfl,by decide +kernel,rfl,by decide +kernel,by decide +kernel⟩
theorem KP(T:Txt K mg a):aZ P w K mg base cG 5 (a.f 112) (a.d 112) ["game","numbers"] (JW a):=by
 refine T.fn.AZ.F.ok KC (fun vs H Q E h=>?_) (fun cdv A outer s H vs Q E hr h=>?_)
 ·obtain⟨t,G,g,g',l,ns,ev,n,r,rfl,_⟩:=h;rfl
 ·obtain⟨t,G,g,g',l,ns,ev,n,r,rfl,I,fr,sd,hn4,hl,hn,hev,ha,k0⟩:=h;refine⟨_,(ag (br (az (pv 0) T.ab.cl T.ab.pd (Fp T) (hr.mono (by decide)) T.ab.zr.b .nil au ))),?_⟩;obtain rfl:ns=[]:=List.length_eq_zero_iff.mp hn;have gd:=i4 (by omega) sd;have e1:Sh11Neutral.eventOf [7]=some .declare:=rfl;rw[e1]at hev;cases hev;simp only[aq.ab.act]at ha
  cases hc:g.current with
  |none=>rw[hc]at ha;cases ha
  |some i=>
   rw[hc]at ha;simp only[]at ha
   split at ha
   ·cases ha
   ·cases ha;exact⟨_,rfl,_,_,_,rfl,I.ob,Cw,t,G,g,i,rfl,I,gd,hc,k0⟩
inductive Ji(a:Ad)(vs:List V)(H:Hp)(Q:VK):Prop
 |mk(t:Tag)(G:bE)(g g':aq.ab)(l:Addr)(ns:List Nat)(e:Sh11.Event)(n:Nat)(r:Sh11.Rules)(_:vs=[.ref G.p,.ref l])(_:aL a H t G g)(_:Fr H t)(_:N.Sound n r g)(_:n≤40000)(_:H l=some (.lst (ib ns)))(_:ns.length=0)(_:Sh11Neutral.eventOf (8::ns)=some e)(_:g.act e=some g')(_:tD a H t G g' (Q .non))
def GX(a:Ad):Sp:=fun vs H Q _=>Ji a vs H Q
theorem Hv:ao ["game","numbers"] ["game","numbers"] (ai wK):=⟨rfl,rfl,rfl,by decide +kernel,rfl,by decide +kernel,by decide +kernel⟩
theorem HH(T:Txt K mg a):aZ P w K mg base cG 2 (a.f 113) (a.d 113) ["game","numbers"] (GX a):=by
 refine T.fn.wu.F.ok Hv (fun vs H Q E h=>?_) (fun cdv A outer s H vs Q E hr h=>?_)
 ·obtain⟨t,G,g,g',l,ns,ev,n,r,rfl,_⟩:=h;rfl
 ·obtain⟨t,G,g,g',l,ns,ev,n,r,rfl,I,fr,sd,hn4,hl,hn,hev,ha,k0⟩:=h;refine⟨_,(ag (br (az (pv 0) T.ab.cl T.ab.jx (zE T) (hr.mono (by decide)) T.ab.sM.b .nil au ))),?_⟩;obtain rfl:ns=[]:=List.length_eq_zero_iff.mp hn;have gd:=i4 (by omega) sd;have e1:Sh11Neutral.eventOf [8]=some .follow:=rfl;rw[e1]at hev;cases hev;simp only[aq.ab.act]at ha
  split at ha
  ·cases ha;exact⟨_,rfl,_,_,_,rfl,I.ob,yc,t,G,g,rfl,I,k0⟩
  ·cases ha
inductive P5(a:Ad)(vs:List V)(H:Hp)(Q:VK):Prop
 |mk(t:Tag)(G:bE)(g g':aq.ab)(l:Addr)(ns:List Nat)(e:Sh11.Event)(n:Nat)(r:Sh11.Rules)(_:vs=[.ref G.p,.ref l])(_:aL a H t G g)(_:Fr H t)(_:N.Sound n r g)(_:n≤40000)(_:H l=some (.lst (ib ns)))(_:ns.length=0)(_:Sh11Neutral.eventOf (9::ns)=some e)(_:g.act e=some g')(_:tD a H t G g' (Q .non))
def OZ(a:Ad):Sp:=fun vs H Q _=>P5 a vs H Q
theorem OM:ao ["game","numbers"] ["game","numbers"] (ai Kw):=⟨rfl,rfl,rfl,by decide +kernel,rfl,by decide +kernel,by decide +kernel⟩
theorem Pr(T:Txt K mg a):aZ P w K mg base cG 3 (a.f 114) (a.d 114) ["game","numbers"] (OZ a):=by
 refine T.fn.La.F.ok OM (fun vs H Q E h=>?_) (fun cdv A outer s H vs Q E hr h=>?_)
 ·obtain⟨t,G,g,g',l,ns,ev,n,r,rfl,_⟩:=h;rfl
 ·obtain⟨t,G,g,g',l,ns,ev,n,r,rfl,I,fr,sd,hn4,hl,hn,hev,ha,k0⟩:=h;refine⟨_,(ag (br (az (pv 0) T.ab.cl T.ab.gS (yb T) (hr.mono (by decide)) T.ab.pJ.b .nil au ))),?_⟩;obtain rfl:ns=[]:=List.length_eq_zero_iff.mp hn;have gd:=i4 (by omega) sd;have e1:Sh11Neutral.eventOf [9]=some .draw:=rfl;rw[e1]at hev;cases hev;simp only[aq.ab.act]at ha
  split at ha
  ·cases ha;exact⟨_,rfl,_,_,_,rfl,I.ob,vJ,t,G,g,rfl,I,k0⟩
  ·cases ha
end
end Sb
namespace Sb
open PySem L2
section
variable{P:Program}{w:World}{K:PySem.W.Frag}{mg:Str→Option Value}{base:Heap}{a:Ad}
noncomputable def fj(gv:V)(k:Addr):List (Str×V):=[("game",gv),("kept",.ref k)]
theorem cZ{gv:V}{k:Addr}:(fj gv k).lookup ("game":Str)=some gv:=by kernel_rfl
theorem rm{gv:V}{k:Addr}:(fj gv k).lookup ("kept":Str)=some (.ref k):=by kernel_rfl
theorem zu{gv:V}{k:Addr}:(fj gv k).lookup ("is_full":Str)=none:=by kernel_rfl
theorem DF{gv:V}{k:Addr}:(fj gv k).length<1000:=by show 2<1000;decide
theorem NX{gv:V}{k:Addr}(v:V):aw "game" v (fj gv k)=fj v k:=by kernel_rfl
theorem Ng{gv:V}{k:Addr}(q:Addr):aw "kept" (.ref q) (fj gv k)=fj gv q:=by kernel_rfl
structure IW where
 p:Addr
 dx:Addr
 kept:Addr
 G:bE
 cs:List (Addr×Addr×Addr×List IZ)
structure nZ(a:Ad)(H:Hp)(t:Tag)(B:IW)(gs:List aq.ab)(g:aq.ab):Prop where
 ob:H B.p=some (.ins (a.c 8) B.dx (fj (.ref B.G.p) B.kept))
 nG:t B.p=2
 kept:H B.kept=some (.lst ((B.cs.map (·.1)).map V.ref))
 tk:t B.kept=3
 Ig:aL a H t B.G g
 len:B.cs.length=gs.length
 snap:∀(j:Nat)(c:Addr×Addr×Addr×List IZ)(g0:aq.ab),B.cs[j]?=some c→gs[j]?=some g0→sN a H t c.1 g0 ((B.G.As.map (·.p)).take g0.played.length) c.2.1 c.2.2.1 c.2.2.2
def bR(n:Nat):Prop:=2≤n
theorem Qq:¬bR 0:=fun h=>by unfold bR at h;omega
theorem SN{m:Nat}(h:gR m):bR m:=by unfold gR at h;unfold bR;omega
theorem nZ.step{H H':Hp}{t t':Tag}{B:IW}{gs:List aq.ab}{g:aq.ab}{R:Nat→Prop}(I:nZ a H t B gs g)(s:Step R H t H' t')(h0:¬R 0)(hk:∀ m,bR m→¬R m):nZ a H' t' B gs g:=by
 have kp:∀{b:Addr}{o:HO}{j:Nat},H b=some o→t b=j→2≤j→H' b=some o∧t' b=j:=fun{b o j} h ht hj=>⟨s.keep b o h (by rw[ht];exact hk _ hj),(s.tag b (bU h)).trans ht⟩
 have k1:=kp I.ob I.nG (by omega);have k2:=kp I.kept I.tk (by omega);exact⟨k1.1,k1.2,k2.1,k2.2,I.Ig.step s h0 fun m hm=>hk m (SN hm),I.len,fun j c g0 hc hg=>(I.snap j c g0 hc hg).step s h0⟩
theorem nZ.same{H H':Hp}{t:Tag}{B:IW}{gs:List aq.ab}{g:aq.ab}(I:nZ a H t B gs g)(s:a6 H H'):nZ a H' t B gs g:=I.step (R:=fun _=>False) (Step.same s) (fun h=>h) (fun _ _ h=>h)
theorem Ext.take{G G':bE}(x:Ext G G'){n:Nat}(h:n≤G.As.length):(G'.As.map (·.p)).take n=(G.As.map (·.p)).take n:=by
 apply List.ext_getElem?;intro k;rw[List.getElem?_take,List.getElem?_take];split
 ·rename_i hk;obtain⟨A',h1,h2⟩:=x k G.As[k] (List.getElem?_eq_getElem (by omega));rw[List.getElem?_map,List.getElem?_map,h1,List.getElem?_eq_getElem (by omega:k<G.As.length)];exact congrArg some h2
 ·rfl
theorem Gz{r:Sh11.Rules}{l:List Sh11.Event}{gs:List aq.ab}{g:aq.ab}(hr:r.ok=true)(h:N.wt r l gs g):∀ g0∈gs,g0.played.length≤g.played.length:=by
 induction h with
 |nil=>intro g0 h0;simp at h0
 |next l gs g g' e hh he ha ih=>
  have hs:=(hh.sound hr).1;have up:=(N.EB hs.ok hs.ex hs.size he ha).1.upd;have hle:g.played.length≤g'.played.length:=by
   cases q:g.played.length with
   |zero=>omega
   |succ m=>
    obtain⟨i',hi',_⟩:=up m g.played[m] (List.getElem?_eq_getElem (by omega));have:=(List.getElem?_eq_some_iff.mp hi').1;omega
  intro g0 h0;rcases List.mem_append.mp h0 with z|z
  ·exact Nat.le_trans (ih g0 z) hle
  ·rw[List.mem_singleton.mp z];exact hle
inductive IM(a:Ad)(vs:List V)(H:Hp)(Q:VK):Prop
 |mk(p dx:Addr)(_:vs=[.ref p])(_:H p=some (.ins (a.c 8) dx []))(_:∀ q H',H q=none→H' p=some (.ins (a.c 8) dx (fj .non q))→H' q=some (.lst [])→(∀ b u,H b=some u→b≠p→H' b=some u)→(∀ b,H' b=none→H b=none)→Q .non H')
def Im(a:Ad):Sp:=fun vs H Q _=>IM a vs H Q
theorem GH:ao ["self"] ["self"] (ai wI):=⟨rfl,rfl,rfl,by decide +kernel,rfl,by decide +kernel,by decide +kernel⟩
theorem Hg(T:Txt K mg a):aZ P w K mg base cG 1 (a.f 103) (a.d 103) ["self"] (Im a):=by
 refine T.ey.BY.F.ok GH (fun vs H Q E h=>?_) (fun cdv A outer s H vs Q E hr h=>?_)
 ·obtain⟨p,dx,rfl,_⟩:=h;rfl
 ·obtain⟨p,dx,rfl,hp,k0⟩:=h;refine⟨_,(ae (aW (pv 0) Kb rfl) (ag (aW (pv 0) (bO ah) rfl))),?_⟩;refine⟨_,rfl,_,_,_,_,rfl,hp,T.ey.cl,T.ey.i3,Nat.lt_of_le_of_lt (Nat.le_refl 0) (by decide),?_⟩;refine⟨(by show 0≤sizeLine;decide),fun q hq=>?_⟩;have npq:p≠q:=aQ aa hq;refine⟨_,rfl,_,_,_,_,rfl,(ax npq).trans aa,T.ey.cl,T.ey.wL,Nat.lt_of_le_of_lt (lp (Nat.le_refl 0)) (by decide),?_⟩;have e2:aw "kept" (.ref q) (aw "game" V.non [])=fj .non q:=by kernel_rfl
  rw[e2];rw[ax npq.symm]at hq;refine k0 q _ hq aa ?_ (fun b u h hb=>?_) (fun b h=>?_)
  ·rw[ax npq.symm,aa]
  ·rw[ax hb,ax (aQ h hq),ax hb];exact h
  ·have b1:b≠p:=fun z=>by rw[z,aa]at h;cases h
   rw[ax b1]at h;have b2:b≠q:=fun z=>by rw[z,aa]at h;cases h
   rw[ax b2,ax b1]at h;exact h
inductive DE(a:Ad)(vs:List V)(H:Hp)(Q:VK):Prop
 |mk(p dx q:Addr)(gv:V)(xs:List V)(_:vs=[.ref p])(_:H p=some (.ins (a.c 8) dx (fj gv q)))(_:H q=some (.lst xs))(_:Q (.bl (decide (32768≤xs.length))) H)
def C2(a:Ad):Sp:=fun vs H Q _=>DE a vs H Q
theorem Cv:ao ["self"] ["self"] (ai pT):=⟨rfl,rfl,rfl,by decide +kernel,rfl,by decide +kernel,by decide +kernel⟩
theorem CY(T:Txt K mg a):aZ P w K mg base cG 1 (a.f 104) (a.d 104) ["self"] (C2 a):=by
 refine T.ey.xo.F.ok Cv (fun vs H Q E h=>?_) (fun cdv A outer s H vs Q E hr h=>?_)
 ·obtain⟨p,dx,q,gv,xs,rfl,_⟩:=h;rfl
 ·obtain⟨p,dx,q,gv,xs,rfl,hp,hq,k0⟩:=h;refine⟨_,(ag (ay (bP (m9 (ba aP rfl T.fn.c8 PySem.boot_len (aK (af (pv 0) rfl) ah)) (aN rfl T.fn.wO))))),?_⟩;have e:decide (32768≤xs.length)=decide ((32768:Int)≤(xs.length:Int)):=by rw[decide_eq_decide];omega
  rw[e]at k0;exact⟨_,rfl,_,_,_,_,_,rfl,hp,T.ey.cl,T.ey.wL,rm,_,_,rfl,.inl (bD.of hq),_,_,rfl,rfl,k0⟩
inductive HQ(a:Ad)(vs:List V)(H:Hp)(Q:VK):Prop
 |mk(l:Addr)(n0 n1 n2 n3 n4:Nat)(_:vs=[.ref l])(_:H l=some (.lst (ib [n0,n1,n2,n3,n4])))(_:Q (.int (if(⟨n0,n1,n2,n3,n4⟩:Sh11.Rules).ok=true then 0 else -1)) H)
def Fo(a:Ad):Sp:=fun vs H Q _=>HQ a vs H Q
theorem si:ao ["numbers","innings_each","over_length"] ["numbers"] (ai ug):=⟨rfl,rfl,rfl,by decide +kernel,rfl,by decide +kernel,by decide +kernel⟩
theorem FC(T:Txt K mg a):aZ P w K mg base cG 1 (a.f 92) (a.d 92) ["numbers"] (Fo a):=by
 refine T.fn.uN.F.ok si (fun vs H Q E h=>?_) (fun cdv A outer s H vs Q E hr h=>?_)
 ·obtain⟨l,n0,n1,n2,n3,n4,rfl,_⟩:=h;rfl
 ·obtain⟨l,n0,n1,n2,n3,n4,rfl,hl,k0⟩:=h;refine⟨_,(ae (aX (i:=1) si.nd rfl (Or.inl rfl) (aM aD (pv 0) aj (fun _ _=>rfl))) (ae (aX (i:=2) si.nd rfl (Or.inl rfl) (aM aD (pv 0) aj (fun _ _=>rfl))) (ae (bN (PW.pt (ny (aT (yo (pv 1) aj)) (ny (aT (kT (pv 1) aj)) (ny (aT (yo (pv 2) aj)) (qJ (aT (kT (pv 2) aj))))))) (ag (ay (aN rfl T.fn.eN))) aY) (ae (bN (PW.pt (ny (aT (kT (aM aD (pv 0) aj (fun _ _=>rfl)) aj)) (ny (aT (kT (aM aD (pv 0) aj (fun _ _=>rfl)) aj)) (qJ (aT (kT (aM aD (pv 0) aj (fun _ _=>rfl)) aj)))))) (ag (ay (aN rfl T.fn.eN))) aY) (ag (ay (aN rfl T.fn.kB))))))),?_⟩;have er:((⟨n0,n1,n2,n3,n4⟩:Sh11.Rules).ok=true)=(1≤n0∧n0≤2∧n1≤200∧4≤n2∧n2≤8∧n3≤200∧n4≤1000):=by
   unfold Sh11.Rules.ok;rw[decide_eq_true_eq]
  refine⟨_,rfl,_,_,_,_,rfl,rfl,bD.of hl,ar (j:=0) rfl,?_⟩;refine⟨_,rfl,_,_,_,_,rfl,rfl,bD.of hl,ar (j:=2) rfl,?_⟩;refine⟨_,rfl,_,_,rfl,rfl,_,rfl,ts ?k1 fun k=>⟨_,rfl,_,_,rfl,rfl,_,rfl,ts k fun k=>⟨_,rfl,_,_,rfl,rfl,_,rfl,ts k fun k=>⟨_,rfl,_,_,rfl,rfl,_,rfl,k⟩⟩⟩⟩;refine eM (fun h=>?_) (fun h=>?_)
  ·rw[if_neg (by rw[er];simp at h;omega)]at k0;exact k0
  ·refine⟨_,rfl,_,_,_,_,rfl,rfl,bD.of hl,ar (j:=1) rfl,_,_,rfl,rfl,_,rfl,ts ?k2 fun k=>⟨_,rfl,_,_,_,_,rfl,rfl,bD.of hl,ar (j:=3) rfl,_,_,rfl,rfl,_,rfl,ts k fun k=>⟨_,rfl,_,_,_,_,rfl,rfl,bD.of hl,ar (j:=4) rfl,_,_,rfl,rfl,_,rfl,k⟩⟩⟩;refine eM (fun h2=>?_) (fun h2=>?_)
   ·rw[if_neg (by rw[er];simp at h2;omega)]at k0;exact k0
   ·rw[if_pos (by rw[er];simp at h h2;omega)]at k0;exact k0
inductive O6(a:Ad)(vs:List V)(H:Hp)(Q:VK):Prop
 |mk(t:Tag)(p dx q l:Addr)(gv:V)(xs:List V)(n0 n1 n2 n3 n4:Nat)(_:vs=[.ref p,.ref l])(_:H p=some (.ins (a.c 8) dx (fj gv q)))(_:t p=2)(_:H q=some (.lst xs))(_:t q=3)(_:Fr H t)(_:H l=some (.lst (ib [n0,n1,n2,n3,n4])))(_:((⟨n0,n1,n2,n3,n4⟩:Sh11.Rules).ok=false→Q (.int (-1)) H))(_:((⟨n0,n1,n2,n3,n4⟩:Sh11.Rules).ok=true→∀ H' t' B',B'.p=p→Step bR H t H' t'→nZ a H' t' B' [] (N.begun ⟨n0,n1,n2,n3,n4⟩)→Q (.int 0) H'))
def Js(a:Ad):Sp:=fun vs H Q _=>O6 a vs H Q
theorem Jv:ao ["book","numbers","verdict"] ["book","numbers"] (ai Il):=⟨rfl,rfl,rfl,by decide +kernel,rfl,by decide +kernel,by decide +kernel⟩
theorem NG(T:Txt K mg a):aZ P w K mg base cG 3 (a.f 105) (a.d 105) ["book","numbers"] (Js a):=by
 refine T.fn.Iy.F.ok Jv (fun vs H Q E h=>?_) (fun cdv A outer s H vs Q E hr h=>?_)
 ·obtain⟨t,p,dx,q,l,gv,xs,n0,n1,n2,n3,n4,rfl,_⟩:=h;rfl
 ·obtain⟨t,p,dx,q,l,gv,xs,n0,n1,n2,n3,n4,rfl,hp,tp,hq,tq,fr,hl,k0,k1⟩:=h;refine⟨_,(ae (aX (i:=2) Jv.nd rfl (Or.inl rfl) (bC (FC T) (hr.mono (by decide)) rfl T.fn.pf T.fn.uN.F.kp T.fn.uN.b au (aK (pv 1) ah))) (ae (bN (aT (bx (pv 2) (aN rfl T.fn.kB))) (ae (aW (pv 0) (dh T.ab.vg (Iu T) (hr.mono (by decide)) rfl T.ab.AF T.ab.B8.b au (aK (aM aD (pv 1) aj (fun _ _=>rfl)) (aK (aM aD (pv 1) aj (fun _ _=>rfl)) (aK (aM aD (pv 1) aj (fun _ _=>rfl)) (aK (aM aD (pv 1) aj (fun _ _=>rfl)) (aK (aM aD (pv 1) aj (fun _ _=>rfl)) ah)))))) rfl) (ag (aW (pv 0) (bO ah) rfl))) aY) (ag (ay (pv 2))))),?_⟩;refine⟨_,rfl,_,_,_,_,_,_,rfl,hl,?_⟩
  cases hr5:(⟨n0,n1,n2,n3,n4⟩:Sh11.Rules).ok with
  |false=>exact⟨_,rfl,_,_,rfl,rfl,_,rfl,cw rfl ⟨_,rfl,k0 hr5⟩⟩
  |true=>
   refine⟨_,rfl,_,_,rfl,rfl,_,rfl,bH rfl ?_⟩;refine⟨_,rfl,_,_,_,_,rfl,rfl,bD.of hl,ar (j:=0) rfl,_,rfl,_,_,_,_,rfl,rfl,bD.of hl,ar (j:=1) rfl,_,rfl,_,_,_,_,rfl,rfl,bD.of hl,ar (j:=2) rfl,_,rfl,_,_,_,_,rfl,rfl,bD.of hl,ar (j:=3) rfl,_,rfl,_,_,_,_,rfl,rfl,bD.of hl,ar (j:=4) rfl,fun x dx2 hx hdx hne=>?_⟩;have sm:a6 H (upd (upd H dx2 (.own x)) x (.ins (a.c 7) dx2 [])):=fun b u h=>by
    rw[ax (aQ h hx),ax (aQ h hdx)];exact h
   refine⟨t,x,dx2,n0,n1,n2,n3,n4,rfl,aa,a6.fr sm fr,fun H1 t1 G1 eG1 I1 kp tg fr1=>⟨rfl,?_⟩⟩
   have st1:Step (fun _=>False) H t H1 t1:=⟨fun b u h _=>kp b u (sm _ _ h) (aQ h hx),fun b h=>by
    cases z:H b with
    |none=>exact absurd z h
    |some u=>exact tg b (bU (sm _ _ z)) (aQ z hx),fun b h=>by
    cases z:H b with
    |none=>exact absurd z h
    |some u=>rw[kp b u (sm _ _ z) (aQ z hx)];simp,fun _=>fr1⟩
   subst eG1;have hp1:=st1.keep _ _ hp (fun h=>h);have tp1:=(st1.tag p (bU hp)).trans tp;refine⟨_,rfl,_,_,_,_,rfl,hp1,T.ey.cl,T.ey.i3,DF,?_⟩;rw[NX];have st2:Step (fun m=>m=2) H1 t1 (upd H1 p (.ins (a.c 8) dx (fj (.ref G1.p) q))) t1:=Step.upd hp1 tp1;have I2:=I1.step st2 (by decide) fun m hm h=>by unfold gR at hm;omega
   refine⟨(by show 0≤sizeLine;decide),fun q3 hq3=>?_⟩;have st3:Step (fun _=>False) (upd H1 p (.ins (a.c 8) dx (fj (.ref G1.p) q))) t1 (upd (upd H1 p (.ins (a.c 8) dx (fj (.ref G1.p) q))) q3 (.lst [])) (cn t1 q3 3):=Step.new _ hq3;have I3:=I2.step st3 (fun h=>h) (fun _ _ h=>h);have hp3:=st3.keep p _ aa (fun h=>h);have tp3:=(st3.tag p (bU aa)).trans tp1;refine⟨_,rfl,_,_,_,_,rfl,hp3,T.ey.cl,T.ey.wL,DF,?_⟩;rw[Ng];have st4:Step (fun m=>m=2) _ (cn t1 q3 3) (upd (upd (upd H1 p (.ins (a.c 8) dx (fj (.ref G1.p) q))) q3 (.lst [])) p (.ins (a.c 8) dx (fj (.ref G1.p) q3))) (cn t1 q3 3):=Step.upd hp3 tp3;have I4:=I3.step st4 (by decide) fun m hm h=>by unfold gR at hm;omega
   have upF:∀{R:Nat→Prop}{H1 H2:Hp}{t1 t2:Tag},(∀ m,R m→bR m)→Step R H1 t1 H2 t2→Step bR H1 t1 H2 t2:=fun h s=>s.mono h
   have two:∀ m,m=2→bR m:=fun m h=>by unfold bR;omega
   refine⟨_,rfl,k1 hr5 _ _ ⟨p,dx,q3,G1,[]⟩ rfl ((((upF (fun _ h=>h.elim) st1).trans (upF two st2)).trans (upF (fun _ h=>h.elim) st3)).trans (upF two st4)) ⟨aa,tp3,?_,ck,I4,rfl,fun j c g0 hc=>by simp at hc⟩⟩;exact st4.keep q3 _ aa (by rw[ck];decide)
noncomputable def RS(k:Nat):Nat:=[5,2,1,8,1,2,1,0,0,0].getD k 0
inductive Ik(a:Ad)(vs:List V)(H:Hp)(Q:VK):Prop
 |mk(t:Tag)(G:bE)(g:aq.ab)(l:Addr)(ns:List Nat)(k:Nat)(_:vs=[.ref G.p,.int k,.ref l])(_:aL a H t G g)(_:Gd g)(_:H l=some (.lst (ib ns)))(_:1≤k)(_:k≤9)(_:ns.length=RS k)(_:∀ H',a6 H H'→Q (.int (vE g (Sh11Neutral.eventOf (k::ns)))) H')
def FL(a:Ad):Sp:=fun vs H Q _=>Ik a vs H Q
theorem yw:ao ["game","number","numbers","rule"] ["game","number","numbers"] (ai uj):=⟨rfl,rfl,rfl,by decide +kernel,rfl,by decide +kernel,by decide +kernel⟩
theorem F8(T:Txt K mg a):aZ P w K mg base cG 8 (a.f 102) (a.d 102) ["game","number","numbers"] (FL a):=by
 refine T.fn.tZ.F.ok yw (fun vs H Q E h=>?_) (fun cdv A outer s H vs Q E hr h=>?_)
 ·obtain⟨t,G,g,l,ns,k,rfl,_⟩:=h;rfl
 ·obtain⟨t,G,g,l,ns,k,rfl,I,gd,hl,h1,h9,hn,k0⟩:=h;refine⟨_,(ae (aX (i:=3) yw.nd rfl (Or.inl rfl) (aM dU (Ge rfl T.fn.HI) (bM sg (pv 1) aj) (fun _ _=>rfl))) (ag (ay (E8 3 (aK (pv 0) (aK (pv 2) ah)))))),?_⟩;have hk:k=1∨k=2∨k=3∨k=4∨k=5∨k=6∨k=7∨k=8∨k=9:=by omega
  rcases hk with rfl|rfl|rfl|rfl|rfl|rfl|rfl|rfl|rfl
  ·exact⟨_,rfl,_,_,rfl,rfl,_,_,_,_,rfl,rfl,T.fn.kZ _,(ar (j:=0) rfl),_,rfl,T.fn.ql.F.kp,_,rfl,_,rfl,_,_,_,_,Dh T,hr.mono (by decide),T.fn.ql.b,t,G,g,l,ns,rfl,I,gd,hl,hn,k0⟩
  ·exact⟨_,rfl,_,_,rfl,rfl,_,_,_,_,rfl,rfl,T.fn.kZ _,(ar (j:=1) rfl),_,rfl,T.fn.rP.F.kp,_,rfl,_,rfl,_,_,_,_,E4 T,hr.mono (by decide),T.fn.rP.b,t,G,g,l,ns,rfl,I,gd,hl,hn,k0⟩
  ·exact⟨_,rfl,_,_,rfl,rfl,_,_,_,_,rfl,rfl,T.fn.kZ _,(ar (j:=2) rfl),_,rfl,T.fn.wN.F.kp,_,rfl,_,rfl,_,_,_,_,HJ T,hr.mono (by decide),T.fn.wN.b,t,G,g,l,ns,rfl,I,gd,hl,hn,k0⟩
  ·exact⟨_,rfl,_,_,rfl,rfl,_,_,_,_,rfl,rfl,T.fn.kZ _,(ar (j:=3) rfl),_,rfl,T.fn.mz.F.kp,_,rfl,_,rfl,_,_,_,_,zo T,hr.mono (by decide),T.fn.mz.b,t,G,g,l,ns,rfl,I,gd,hl,hn,k0⟩
  ·exact⟨_,rfl,_,_,rfl,rfl,_,_,_,_,rfl,rfl,T.fn.kZ _,(ar (j:=4) rfl),_,rfl,T.fn.nY.F.kp,_,rfl,_,rfl,_,_,_,_,Bh T,hr.mono (by decide),T.fn.nY.b,t,G,g,l,ns,rfl,I,gd,hl,hn,k0⟩
  ·exact⟨_,rfl,_,_,rfl,rfl,_,_,_,_,rfl,rfl,T.fn.kZ _,(ar (j:=5) rfl),_,rfl,T.fn.qy.F.kp,_,rfl,_,rfl,_,_,_,_,CD T,hr.mono (by decide),T.fn.qy.b,t,G,g,l,ns,rfl,I,gd,hl,hn,k0⟩
  ·exact⟨_,rfl,_,_,rfl,rfl,_,_,_,_,rfl,rfl,T.fn.kZ _,(ar (j:=6) rfl),_,rfl,T.fn.pK.F.kp,_,rfl,_,rfl,_,_,_,_,CB T,hr.mono (by decide),T.fn.pK.b,t,G,g,l,ns,rfl,I,gd,hl,hn,k0⟩
  ·exact⟨_,rfl,_,_,rfl,rfl,_,_,_,_,rfl,rfl,T.fn.kZ _,(ar (j:=7) rfl),_,rfl,T.fn.jG.F.kp,_,rfl,_,rfl,_,_,_,_,xg T,hr.mono (by decide),T.fn.jG.b,t,G,g,l,ns,rfl,I,gd,hl,hn,k0⟩
  ·exact⟨_,rfl,_,_,rfl,rfl,_,_,_,_,rfl,rfl,T.fn.kZ _,(ar (j:=8) rfl),_,rfl,T.fn.pP.F.kp,_,rfl,_,rfl,_,_,_,_,CI T,hr.mono (by decide),T.fn.pP.b,t,G,g,l,ns,rfl,I,gd,hl,hn,k0⟩
inductive P2(a:Ad)(vs:List V)(H:Hp)(Q:VK):Prop
 |mk(t:Tag)(B:IW)(gs:List aq.ab)(g:aq.ab)(r:Sh11.Rules)(lg:List Sh11.Event)(l:Addr)(ns:List Nat)(k:Nat)(_:vs=[.ref B.p,.int k,.ref l])(_:nZ a H t B gs g)(_:Fr H t)(_:N.wt r lg gs g)(_:r.ok=true)(_:lg.length≤30000)(_:H l=some (.lst (ib ns)))(_:t l=0)(_:1≤k)(_:k≤9)(_:ns.length=RS k)(_:(∀ H',a6 H H'→vE g (Sh11Neutral.eventOf (k::ns))≠0→Q (.int (vE g (Sh11Neutral.eventOf (k::ns)))) H'))(_:(∀ e g' H' t' B',Sh11Neutral.eventOf (k::ns)=some e→g.act e=some g'→B'.p=B.p→Step bR H t H' t'→nZ a H' t' B' (gs++[g]) g'→Q (.int 0) H'))
def Pa(a:Ad):Sp:=fun vs H Q _=>P2 a vs H Q
theorem Dn:ao ["book","number","numbers","verdict","thing"] ["book","number","numbers"] (ai Lg):=⟨rfl,rfl,rfl,by decide +kernel,rfl,by decide +kernel,by decide +kernel⟩
theorem OG(T:Txt K mg a):aZ P w K mg base cG 10 (a.f 115) (a.d 115) ["book","number","numbers"] (Pa a):=by
 refine T.fn.Lo.F.ok Dn (fun vs H Q E h=>?_) (fun cdv A outer s H vs Q E hr h=>?_)
 ·obtain⟨t,B,gs,g,r,lg,l,ns,k,rfl,_⟩:=h;rfl
 ·obtain⟨t,B,gs,g,r,lg,l,ns,k,rfl,I,fr,hh,fD,hlg,hl,tl,h1,h9,hn,k0,k1⟩:=h;refine⟨_,(ae (aX (i:=3) Dn.nd rfl (Or.inl rfl) (bC (F8 T) (hr.mono (by decide)) rfl T.fn.o9 T.fn.tZ.F.kp T.fn.tZ.b au (aK (af (pv 0) rfl) (aK (pv 1) (aK (pv 2) ah))))) (ae (bN (PW.pt (uU (aT (bx (pv 3) (aN rfl T.fn.kB))) (oV (dR (az (pv 0) T.ey.cl T.ey.lC (CY T) (hr.mono (by decide)) T.ey.xo.b .nil au ))))) (ag (aX (i:=3) Dn.nd rfl (Or.inl rfl) (aN rfl T.fn.px))) aY) (ae (bN (aT (bx (pv 3) (aN rfl T.fn.kB))) (ae (br (Am PySem.F.plainAttrs_list PySem.F.slot_list_append PySem.F.type_list_append mI (af (pv 0) rfl) (aK (az (af (pv 0) rfl) T.ab.cl T.ab.j9 (AY T) (hr.mono (by decide)) T.ab.vk.b .nil au ) ah))) (ae (aX (i:=4) Dn.nd rfl (Or.inl rfl) (aM dU (Ge rfl T.fn.DY) (bM sg (pv 1) aj) (fun _ _=>rfl))) (ag (br (E8 4 (aK (af (pv 0) rfl) (aK (pv 2) ah))))))) aY) (ag (ay (pv 3)))))),?_⟩;obtain⟨sd,cm,hgl⟩:=hh.sound fD;have gd:=i4 (by omega) sd;refine⟨_,rfl,_,_,_,_,_,rfl,I.ob,T.ey.cl,T.ey.i3,cZ,_,rfl,_,rfl,t,B.G,g,l,ns,k,rfl,I.Ig,gd,hl,h1,h9,hn,fun H1 s1=>?_⟩;have I1:=I.same s1;by_cases hv:vE g (Sh11Neutral.eventOf (k::ns))=0
  ·obtain⟨e,hev⟩:∃ e,Sh11Neutral.eventOf (k::ns)=some e:=by
    cases z:Sh11Neutral.eventOf (k::ns)with
    |none=>rw[z]at hv;exact absurd hv (by show¬(-1:Int)=0;decide)
    |some e=>exact⟨e,rfl⟩
   obtain⟨g',ha⟩:∃ g',g.act e=some g':=by
    rw[hev]at hv
    cases z:g.act e with
    |none=>rw[lj z]at hv;exact absurd hv (by decide)
    |some g'=>exact⟨g',rfl⟩
   rw[hv];have hlen:((B.cs.map (·.1)).map V.ref).length=lg.length:=by rw[List.length_map,List.length_map,I.len,hgl]
   refine⟨_,rfl,_,_,rfl,rfl,_,rfl,bH rfl ⟨_,rfl,_,_,_,rfl,I1.ob,zu,_,_,_,_,_,rfl,I1.ob,I1.kept,_,rfl,cw (decide_eq_false (by rw[hlen];omega)) ?_⟩⟩;refine⟨_,rfl,_,_,rfl,rfl,_,rfl,bH rfl ?_⟩;refine⟨_,rfl,_,_,_,_,_,rfl,I1.ob,T.ey.cl,T.ey.wL,rm,.inl ⟨rfl,_,bD.of I1.kept⟩,_,rfl,_,_,_,_,_,rfl,I1.ob,T.ey.cl,T.ey.i3,cZ,_,_,_,rfl,I1.Ig.ob,yQ,t,B.G,g,rfl,I1.Ig,a6.fr s1 fr,gd,fun H3 c lo sv es s3 Sn3=>?_⟩;have S3:=s1.trans s3;have I3:=I.same S3;refine⟨_,_,_,rfl,rfl,I3.kept,m5 (by rw[hlen];omega),?_⟩;have st4:Step bR H3 t (upd H3 B.kept (.lst ((B.cs.map (·.1)).map V.ref++[.ref c]))) t:=Step.upd I3.kept (by rw[I3.tk];unfold bR;omega);have kept4:(upd H3 B.kept (.lst ((B.cs.map (·.1)).map V.ref++[.ref c]))) B.kept=some (.lst ((B.cs.map (·.1)).map V.ref++[.ref c])):=aa;have PV:Step (fun m=>m=3) H3 t (upd H3 B.kept (.lst ((B.cs.map (·.1)).map V.ref++[.ref c]))) t:=Step.upd I3.kept I3.tk;have G4:=I3.Ig.step PV (by decide) fun m hm h=>by unfold gR at hm;omega
   have ob4:=PV.keep _ _ I3.ob (by rw[I3.nG];decide);have sn4:∀(j:Nat)(c:Addr×Addr×Addr×List IZ)(g0:aq.ab),B.cs[j]?=some c→gs[j]?=some g0→sN a _ t c.1 g0 ((B.G.As.map (·.p)).take g0.played.length) c.2.1 c.2.2.1 c.2.2.2:=fun j c g0 h1 h2=>(I3.snap j c g0 h1 h2).step PV (by decide)
   have hl4:(upd H3 B.kept (.lst ((B.cs.map (·.1)).map V.ref++[.ref c]))) l=some (.lst (ib ns))∨True:=.inr trivial;have nlk:l≠B.kept:=QN tl I.tk (by decide);have hl5:(upd H3 B.kept (.lst ((B.cs.map (·.1)).map V.ref++[.ref c]))) l=some (.lst (ib ns)):=(ax nlk).trans (S3 _ _ hl)
   generalize eH4:upd H3 B.kept (.lst ((B.cs.map (·.1)).map V.ref++[.ref c]))=H4 at *
   have fr4:Fr H4 t:=st4.fr (a6.fr S3 fr);have B4:H4 B.p=some (.ins (a.c 8) B.dx (fj (.ref B.G.p) B.kept)):=ob4;have hk:k=1∨k=2∨k=3∨k=4∨k=5∨k=6∨k=7∨k=8∨k=9:=by omega
   have fin:tD a H4 t B.G g' (fun H5=>Q (.int 0) H5):=fun H5 t5 G5 e5 st5 ex5 I5=>by
    have S6:=((Step.same (R:=bR) (t:=t) S3).trans st4).trans (st5.mono fun m h=>SN h);refine k1 e g' H5 t5 ⟨B.p,B.dx,B.kept,G5,B.cs++[(c,lo,sv,es)]⟩ hev ha rfl S6 ⟨?_,?_,?_,?_,I5,by simp[I.len],fun j c' g0 hc' hg0=>?_⟩
    ·show H5 B.p=some (.ins (a.c 8) B.dx (fj (.ref G5.p) B.kept));rw[e5];exact st5.keep _ _ ob4 (by rw[I3.nG];unfold gR;omega)
    ·exact (st5.tag _ (bU ob4)).trans I3.nG
    ·have:=st5.keep _ _ kept4 (by rw[I3.tk];unfold gR;omega);show H5 B.kept=some (.lst (((B.cs++[(c,lo,sv,es)]).map (·.1)).map V.ref));rw[this,List.map_append,List.map_append];rfl
    ·exact (st5.tag _ (bU kept4)).trans I3.tk
    ·have hl0:g0.played.length≤B.G.As.length:=by
      rw[I.Ig.len];by_cases hj:j<gs.length
      ·rw[List.getElem?_append_left hj]at hg0;exact Gz fD hh g0 (List.mem_of_getElem? hg0)
      ·have hj2:j=gs.length:=by
        have:=(List.getElem?_eq_some_iff.mp hg0).1;simp at this;omega
       subst hj2;have:g=g0:=by simpa using hg0
       rw[this];exact Nat.le_refl _
     show sN a H5 t5 c'.1 g0 ((G5.As.map (·.p)).take g0.played.length) c'.2.1 c'.2.2.1 c'.2.2.2;rw[ex5.take hl0];by_cases hj:j<gs.length
     ·have hc2:(B.cs++[(c,lo,sv,es)])[j]?=some c':=hc';rw[List.getElem?_append_left (by rw[I.len];exact hj)]at hc2;rw[List.getElem?_append_left hj]at hg0;exact (sn4 j c' g0 hc2 hg0).step st5 xl
     ·have hj2:j=gs.length:=by
       have:=(List.getElem?_eq_some_iff.mp hg0).1;simp at this;omega
      subst hj2;have e1:g=g0:=by simpa using hg0
      have e2:(c,lo,sv,es)=c':=by
       have hc2:(B.cs++[(c,lo,sv,es)])[gs.length]?=some c':=hc';rw[←I.len]at hc2
       simpa using hc2
      subst e1 e2;have s4:=(Sn3.step st4 Qq).step st5 xl;refine s4.places fun k hk=>?_
      rw[List.getElem?_take,if_pos hk]
   rcases hk with rfl|rfl|rfl|rfl|rfl|rfl|rfl|rfl|rfl
   ·exact⟨_,rfl,_,_,rfl,rfl,_,_,_,_,rfl,rfl,T.fn.i8 _,(ar (j:=0) rfl),_,rfl,T.fn.qm.F.kp,_,rfl,_,_,_,_,_,rfl,B4,T.ey.cl,T.ey.i3,cZ,_,rfl,_,_,_,_,Dd T,hr.mono (by decide),T.fn.qm.b,t,B.G,g,g',l,ns,e,lg.length,r,rfl,G4,fr4,sd,by omega,hl5,hn,hev,ha,fun H5 t5 G5 e5 st5 ex5 I5=>⟨_,rfl,fin H5 t5 G5 e5 st5 ex5 I5⟩⟩
   ·exact⟨_,rfl,_,_,rfl,rfl,_,_,_,_,rfl,rfl,T.fn.i8 _,(ar (j:=1) rfl),_,rfl,T.fn.rY.F.kp,_,rfl,_,_,_,_,_,rfl,B4,T.ey.cl,T.ey.i3,cZ,_,rfl,_,_,_,_,Fe T,hr.mono (by decide),T.fn.rY.b,t,B.G,g,g',l,ns,e,lg.length,r,rfl,G4,fr4,sd,by omega,hl5,hn,hev,ha,fun H5 t5 G5 e5 st5 ex5 I5=>⟨_,rfl,fin H5 t5 G5 e5 st5 ex5 I5⟩⟩
   ·exact⟨_,rfl,_,_,rfl,rfl,_,_,_,_,rfl,rfl,T.fn.i8 _,(ar (j:=2) rfl),_,rfl,T.fn.wW.F.kp,_,rfl,_,_,_,_,_,rfl,B4,T.ey.cl,T.ey.i3,cZ,_,rfl,_,_,_,_,HL T,hr.mono (by decide),T.fn.wW.b,t,B.G,g,g',l,ns,e,lg.length,r,rfl,G4,fr4,sd,by omega,hl5,hn,hev,ha,fun H5 t5 G5 e5 st5 ex5 I5=>⟨_,rfl,fin H5 t5 G5 e5 st5 ex5 I5⟩⟩
   ·exact⟨_,rfl,_,_,rfl,rfl,_,_,_,_,rfl,rfl,T.fn.i8 _,(ar (j:=3) rfl),_,rfl,T.fn.AW.F.kp,_,rfl,_,_,_,_,_,rfl,B4,T.ey.cl,T.ey.i3,cZ,_,rfl,_,_,_,_,KD T,hr.mono (by decide),T.fn.AW.b,t,B.G,g,g',l,ns,e,lg.length,r,rfl,G4,fr4,sd,by omega,hl5,hn,hev,ha,fun H5 t5 G5 e5 st5 ex5 I5=>⟨_,rfl,fin H5 t5 G5 e5 st5 ex5 I5⟩⟩
   ·exact⟨_,rfl,_,_,rfl,rfl,_,_,_,_,rfl,rfl,T.fn.i8 _,(ar (j:=4) rfl),_,rfl,T.fn.DZ.F.kp,_,rfl,_,_,_,_,_,rfl,B4,T.ey.cl,T.ey.i3,cZ,_,rfl,_,_,_,_,Mp T,hr.mono (by decide),T.fn.DZ.b,t,B.G,g,g',l,ns,e,lg.length,r,rfl,G4,fr4,sd,by omega,hl5,hn,hev,ha,fun H5 t5 G5 e5 st5 ex5 I5=>⟨_,rfl,fin H5 t5 G5 e5 st5 ex5 I5⟩⟩
   ·exact⟨_,rfl,_,_,rfl,rfl,_,_,_,_,rfl,rfl,T.fn.i8 _,(ar (j:=5) rfl),_,rfl,T.fn.A8.F.kp,_,rfl,_,_,_,_,_,rfl,B4,T.ey.cl,T.ey.i3,cZ,_,rfl,_,_,_,_,JS T,hr.mono (by decide),T.fn.A8.b,t,B.G,g,g',l,ns,e,lg.length,r,rfl,G4,fr4,sd,by omega,hl5,hn,hev,ha,fun H5 t5 G5 e5 st5 ex5 I5=>⟨_,rfl,fin H5 t5 G5 e5 st5 ex5 I5⟩⟩
   ·exact⟨_,rfl,_,_,rfl,rfl,_,_,_,_,rfl,rfl,T.fn.i8 _,(ar (j:=6) rfl),_,rfl,T.fn.AZ.F.kp,_,rfl,_,_,_,_,_,rfl,B4,T.ey.cl,T.ey.i3,cZ,_,rfl,_,_,_,_,KP T,hr.mono (by decide),T.fn.AZ.b,t,B.G,g,g',l,ns,e,lg.length,r,rfl,G4,fr4,sd,by omega,hl5,hn,hev,ha,fun H5 t5 G5 e5 st5 ex5 I5=>⟨_,rfl,fin H5 t5 G5 e5 st5 ex5 I5⟩⟩
   ·exact⟨_,rfl,_,_,rfl,rfl,_,_,_,_,rfl,rfl,T.fn.i8 _,(ar (j:=7) rfl),_,rfl,T.fn.wu.F.kp,_,rfl,_,_,_,_,_,rfl,B4,T.ey.cl,T.ey.i3,cZ,_,rfl,_,_,_,_,HH T,hr.mono (by decide),T.fn.wu.b,t,B.G,g,g',l,ns,e,lg.length,r,rfl,G4,fr4,sd,by omega,hl5,hn,hev,ha,fun H5 t5 G5 e5 st5 ex5 I5=>⟨_,rfl,fin H5 t5 G5 e5 st5 ex5 I5⟩⟩
   ·exact⟨_,rfl,_,_,rfl,rfl,_,_,_,_,rfl,rfl,T.fn.i8 _,(ar (j:=8) rfl),_,rfl,T.fn.La.F.kp,_,rfl,_,_,_,_,_,rfl,B4,T.ey.cl,T.ey.i3,cZ,_,rfl,_,_,_,_,Pr T,hr.mono (by decide),T.fn.La.b,t,B.G,g,g',l,ns,e,lg.length,r,rfl,G4,fr4,sd,by omega,hl5,hn,hev,ha,fun H5 t5 G5 e5 st5 ex5 I5=>⟨_,rfl,fin H5 t5 G5 e5 st5 ex5 I5⟩⟩
  ·refine⟨_,rfl,_,_,rfl,rfl,_,rfl,cw (decide_eq_false hv) (lZ ?_)⟩;exact⟨_,rfl,_,_,rfl,rfl,_,rfl,cw (decide_eq_false hv) ⟨_,rfl,k0 H1 s1 hv⟩⟩
end
end Sb
namespace Sb
open PySem L2
section
variable{P:Program}{w:World}{K:PySem.W.Frag}{mg:Str→Option Value}{base:Heap}{a:Ad}
inductive Qv(a:Ad)(vs:List V)(H:Hp)(Q:VK):Prop
 |mk(t:Tag)(B:IW)(gs:List aq.ab)(g:aq.ab)(r:Sh11.Rules)(lg:List Sh11.Event)(_:vs=[.ref B.p])(_:nZ a H t B gs g)(_:Fr H t)(_:N.wt r lg gs g)(_:r.ok=true)(_:(gs=[]→Q (.int (-2)) H))(_:(∀ gs0 g0 H' t' B',gs=gs0++[g0]→B'.p=B.p→Step bR H t H' t'→nZ a H' t' B' gs0 g0→Q (.int 0) H'))
def OJ(a:Ad):Sp:=fun vs H Q _=>Qv a vs H Q
theorem PB:ao ["book"] ["book"] (ai Ld):=⟨rfl,rfl,rfl,by decide +kernel,rfl,by decide +kernel,by decide +kernel⟩
theorem Pg(T:Txt K mg a):aZ P w K mg base cG 4 (a.f 116) (a.d 116) ["book"] (OJ a):=by
 refine T.fn.Le.F.ok PB (fun vs H Q E h=>?_) (fun cdv A outer s H vs Q E hr h=>?_)
 ·obtain⟨t,B,gs,g,r,lg,rfl,_⟩:=h;rfl
 ·obtain⟨t,B,gs,g,r,lg,rfl,I,fr,hh,fD,k0,k1⟩:=h;refine⟨_,(ae (bN (aT (bx (ba aP rfl T.fn.c8 PySem.boot_len (aK (af (pv 0) rfl) ah)) aj)) (ag (ay (aN rfl T.fn.px))) aY) (ae (br (aU (af (pv 0) rfl) T.ab.cl T.ab.k9 (Dl T) (hr.mono (by decide)) T.ab.xu.b au (aK (N8 PySem.F.plainAttrs_list PySem.F.slot_list_pop PySem.F.type_list_pop Oy (af (pv 0) rfl) ) ah))) (ag (ay (aN rfl T.fn.kB))))),?_⟩;have hlen:((B.cs.map (·.1)).map V.ref).length=gs.length:=by rw[List.length_map,List.length_map,I.len]
  refine⟨_,rfl,_,_,_,_,_,rfl,I.ob,T.ey.cl,T.ey.wL,rm,_,_,rfl,.inl (bD.of I.kept),_,_,rfl,rfl,_,rfl,?_⟩;rw[hlen];rcases aq.a8 gs with e|⟨gs0,g0,e⟩
  ·subst e;exact bH rfl (k0 rfl)
  ·subst e;have hcl:=I.len;rcases aq.a8 B.cs with z|⟨cs0,c0,z⟩
   ·rw[z]at hcl;simp at hcl
   have hcl0:cs0.length=gs0.length:=by rw[z]at hcl;simpa using hcl
   refine cw (decide_eq_false (by simp;omega)) ?_;have hg:((B.cs.map (·.1)).map V.ref)[((B.cs.map (·.1)).map V.ref).length-1]?=some (V.ref c0.1):=by rw[z];simp
   have hd:((B.cs.map (·.1)).map V.ref).dropLast=(cs0.map (·.1)).map V.ref:=by rw[z];simp
   refine⟨_,rfl,_,_,_,_,_,rfl,I.ob,T.ey.cl,T.ey.i3,cZ,_,_,_,rfl,I.Ig.ob,Ai,_,rfl,_,_,_,_,_,rfl,I.ob,T.ey.cl,T.ey.wL,rm,.inl ⟨rfl,_,bD.of I.kept⟩,_,_,_,rfl,rfl,I.kept,hg,?_⟩;rw[hd];have st1:Step (fun m=>m=3) H t (upd H B.kept (.lst ((cs0.map (·.1)).map V.ref))) t:=Step.upd I.kept I.tk;have G1:=I.Ig.step st1 (by decide) fun m hm h=>by unfold gR at hm;omega
   have Sn0:=(I.snap gs0.length c0 g0 (by rw[z,←hcl0];simp) (by simp)).step st1 (by decide);obtain⟨l0,e0,el⟩:∃ l0 e0,lg=l0++[e0]:=by
    rcases aq.a8 lg with q|q
    ·have:=(hh.sound fD).2.2;rw[q]at this;simp at this
    ·exact q
   subst el;obtain⟨hb,he,ha⟩:=hh.back;have sd0:=(hb.sound fD).1;obtain⟨gd0,hru⟩:=N.EB sd0.ok sd0.ex sd0.size he ha;refine⟨t,B.G,g0,g,c0.1,_,_,_,rfl,G1,st1.fr fr,Sn0,hru,gd0.upd,fun H2 t2 G2 eG2 st2 eA2 I2=>?_⟩;refine k1 gs0 g0 H2 t2 ⟨B.p,B.dx,B.kept,G2,cs0⟩ rfl rfl ((st1.mono fun m h=>by unfold bR;omega).trans (st2.mono fun m h=>SN h)) ⟨?_,?_,?_,?_,I2,hcl0,fun j c gj hc hgj=>?_⟩
   ·show H2 B.p=some (.ins (a.c 8) B.dx (fj (.ref G2.p) B.kept));rw[eG2];exact st2.keep _ _ (st1.keep _ _ I.ob (by rw[I.nG];decide)) (by rw[I.nG];unfold gR;omega)
   ·exact (st2.tag _ (bU (st1.keep _ _ I.ob (by rw[I.nG];decide)))).trans I.nG
   ·exact st2.keep _ _ aa (by rw[I.tk];unfold gR;omega)
   ·exact (st2.tag _ (bU aa)).trans I.tk
   ·have hc':cs0[j]?=some c:=hc;have s1:=((I.snap j c gj (by rw[z,List.getElem?_append_left (List.getElem?_eq_some_iff.mp hc').1];exact hc') (by rw[List.getElem?_append_left (List.getElem?_eq_some_iff.mp hgj).1];exact hgj)).step st1 (by decide)).step st2 xl;have hle:=Gz fD hb gj (List.mem_of_getElem? hgj);show sN a H2 t2 c.1 gj ((G2.As.map (·.p)).take gj.played.length) c.2.1 c.2.2.1 c.2.2.2;rw[eA2];refine s1.places fun k hk=>?_
    rw[List.getElem?_take,if_pos hk,List.getElem?_take,if_pos (by omega),List.getElem?_take,if_pos hk]
noncomputable abbrev iB(l:List Int):List V:=l.map V.int
inductive Rm(a:Ad)(vs:List V)(H:Hp)(Q:VK):Prop
 |mk(t:Tag)(G:bE)(g:aq.ab)(l:Addr)(ns:List Nat)(n:Nat)(r:Sh11.Rules)(_:vs=[.ref G.p,.ref l])(_:aL a H t G g)(_:N.Sound n r g)(_:n≤40000)(_:H l=some (.lst (ib ns)))(_:ns.length=0)(_:∀ H' D,a6 H H'→H D=none→H' D=some (.lst (iB (N.Kh g)))→Q (.ref D) H')
def Qr(a:Ad):Sp:=fun vs H Q _=>Rm a vs H Q
theorem Lm:ao ["game","numbers","last","score"] ["game","numbers"] (ai NH):=⟨rfl,rfl,rfl,by decide +kernel,rfl,by decide +kernel,by decide +kernel⟩
theorem Qe(T:Txt K mg a):aZ P w K mg base cG 3 (a.f 117) (a.d 117) ["game","numbers"] (Qr a):=by
 refine T.fn.Nh.F.ok Lm (fun vs H Q E h=>?_) (fun cdv A outer s H vs Q E hr h=>?_)
 ·obtain⟨t,G,g,l,ns,n,r,rfl,_⟩:=h;rfl
 ·obtain⟨t,G,g,l,ns,n,r,rfl,I,sd,hn4,hl,hn,k0⟩:=h;refine⟨_,(ae (bN (aT (bx (ba aP rfl T.fn.c8 PySem.boot_len (aK (af (pv 0) rfl) ah)) aj)) (ag (ay (bO (aK (aN rfl T.fn.px) ah)))) aY) (ae (aX (i:=2) Lm.nd rfl (Or.inl rfl) (aM aD (af (pv 0) rfl) (ly g5 aj) (fun _ _=>rfl))) (ae (aX (i:=3) Lm.nd rfl (Or.inl rfl) (bO (aK (af (af (pv 2) rfl) rfl) (aK (af (af (pv 2) rfl) rfl) (aK (az (pv 2) T.Innings.cl T.Innings.cy (gE T) (hr.mono (by decide)) T.Innings.eJ.b .nil au ) ah))))) (ag (ay (bM om (bM om (bM om (bO (aK (aN rfl T.fn.kB) (aK (ba aP rfl T.fn.c8 PySem.boot_len (aK (af (pv 0) rfl) ah)) (aK (af (pv 2) rfl) ah)))) (af (pv 2) rfl)) (bO (aK (az (pv 2) T.Innings.cl T.Innings.dm (iU T) (hr.mono (by decide)) T.Innings.gq.b .nil au ) ah))) (pv 3))))))),?_⟩;have hlen:((G.As.map (·.p)).map V.ref).length=g.played.length:=by rw[List.length_map,List.length_map,I.len]
  unfold N.Kh at k0;refine⟨_,rfl,_,_,_,_,_,rfl,I.ob,T.ab.cl,T.ab.bF,aV,_,_,rfl,.inl (bD.of I.played),_,_,rfl,rfl,_,rfl,?_⟩;rw[hlen];rcases aq.a8 g.played with e|⟨ps,i,e⟩
  ·rw[e]at k0;exact bH (by rw[e];rfl) ⟨(by show 1≤sizeLine;decide),fun D hD=>k0 _ D (aA hD) hD aa⟩
  ·obtain⟨As,A,eA,el,J,hat⟩:=I.Ny e;have gl:g.played.getLast?=some i:=by rw[e];simp
   rw[gl]at k0;simp only[]at k0;refine cw (decide_eq_false (by rw[e];simp;omega)) ?_;refine⟨_,rfl,_,_,_,_,_,rfl,I.ob,T.ab.cl,T.ab.bF,aV,_,rfl,_,_,_,_,rfl,rfl,bD.of I.played,hat,?_⟩;obtain⟨os,hos,ds,rfl⟩:=J.sums;refine⟨_,rfl,_,_,_,_,_,rfl,J.ob,T.Innings.cl,T.Innings.kE,di,_,_,_,_,_,rfl,hos,T.bB.cl,T.bB.bS,lD,_,rfl,_,_,_,_,_,rfl,J.ob,T.Innings.cl,T.Innings.kE,di,_,_,_,_,_,rfl,hos,T.bB.cl,T.bB.bz,kY,_,rfl,_,_,_,rfl,J.ob,fF,_,_,_,_,rfl,J,(by show 3≤sizeLine;decide),fun D1 hD1=>?_⟩;have s1:=aA (o:=.lst [.int (N.proj i).sums.balls,.int (N.proj i).sums.runs,.int (N.proj i).falls.length]) hD1;have I1:=I.same s1;have J1:=J.same s1;refine⟨_,rfl,_,_,_,_,_,rfl,I1.ob,T.ab.cl,T.ab.bF,aV,_,_,rfl,.inl (bD.of I1.played),_,rfl,_,_,_,_,_,rfl,J1.ob,T.Innings.cl,T.Innings.pF,dW,(by show 3≤sizeLine;decide),fun D2 hD2=>?_⟩;rw[hlen];have s2:=aA (o:=.lst [.int 0,.int g.played.length,.int (N.proj i).side]) hD2;have J2:=J1.same s2;refine⟨_,rfl,_,_,_,_,_,rfl,J2.ob,T.Innings.cl,T.Innings.dP,bh,_,_,_,_,rfl,rfl,aa,J2.ends,(by show 3+2≤sizeLine;decide),fun D3 hD3=>?_⟩;have s3:=aA (o:=.lst ([V.int 0,.int g.played.length,.int (N.proj i).side]++[.int (N.proj i).e0,.int (N.proj i).e1])) hD3;have J3:=J2.same s3;refine⟨_,rfl,_,_,_,rfl,J3.ob,gW,_,_,_,_,rfl,J3,(by show 1≤sizeLine;decide),fun D4 hD4=>?_⟩;have s4:=aA (o:=.lst [.int (N.proj i).cW]) hD4;refine⟨_,_,_,_,rfl,rfl,s4 _ _ aa,aa,(by show 5+1≤sizeLine;decide),fun D5 hD5=>?_⟩;have s5:=aA (o:=.lst ([V.int 0,.int g.played.length,.int (N.proj i).side]++[.int (N.proj i).e0,.int (N.proj i).e1]++[.int (N.proj i).cW])) hD5;refine⟨_,rfl,_,_,_,_,rfl,rfl,aa,(((s2.trans s3).trans s4).trans s5) _ _ aa,(by show 6+3≤sizeLine;decide),fun D6 hD6=>?_⟩;exact k0 _ D6 (((((s1.trans s2).trans s3).trans s4).trans s5).trans (aA hD6)) (((((s1.trans s2).trans s3).trans s4).trans s5).free hD6) aa
inductive Pt(a:Ad)(vs:List V)(H:Hp)(Q:VK):Prop
 |mk(t:Tag)(G:bE)(g:aq.ab)(l:Addr)(ns:List Nat)(n:Nat)(r:Sh11.Rules)(_:vs=[.ref G.p,.ref l])(_:aL a H t G g)(_:N.Sound n r g)(_:n≤40000)(_:H l=some (.lst (ib ns)))(_:ns.length=1)(_:∀ H' D,a6 H H'→H D=none→H' D=some (.lst (iB (N.wm g (ns.getD 0 0))))→Q (.ref D) H')
def Ol(a:Ad):Sp:=fun vs H Q _=>Pt a vs H Q
theorem Ap:ao ["game","numbers","innings","sums","extras"] ["game","numbers"] (ai Iq):=⟨rfl,rfl,rfl,by decide +kernel,rfl,by decide +kernel,by decide +kernel⟩
theorem Ou(T:Txt K mg a):aZ P w K mg base cG 2 (a.f 118) (a.d 118) ["game","numbers"] (Ol a):=by
 refine T.fn.G7.F.ok Ap (fun vs H Q E h=>?_) (fun cdv A outer s H vs Q E hr h=>?_)
 ·obtain⟨t,G,g,l,ns,n,r,rfl,_⟩:=h;rfl
 ·obtain⟨t,G,g,l,ns,n,r,rfl,I,sd,hn4,hl,hn,k0⟩:=h;refine⟨_,(ae (bN (aT (m9 (aM aD (pv 1) aj (fun _ _=>rfl)) (ba aP rfl T.fn.c8 PySem.boot_len (aK (af (pv 0) rfl) ah)))) (ag (ay (bO (aK (aN rfl T.fn.eN) ah)))) aY) (ae (aX (i:=2) Ap.nd rfl (Or.inl rfl) (aM aD (af (pv 0) rfl) (aM aD (pv 1) aj (fun _ _=>rfl)) (fun _ _=>rfl))) (ae (aX (i:=3) Ap.nd rfl (Or.inl rfl) (af (pv 2) rfl)) (ae (aX (i:=4) Ap.nd rfl (Or.inl rfl) (bO (aK (af (pv 3) rfl) (aK (af (pv 3) rfl) (aK (af (pv 3) rfl) (aK (af (pv 3) rfl) (aK (af (pv 3) rfl) ah))))))) (ag (ay (bM om (bM om (bO (aK (aN rfl T.fn.kB) (aK (af (pv 2) rfl) (aK (af (pv 3) rfl) (aK (az (pv 2) T.Innings.cl T.Innings.cy (gE T) (hr.mono (by decide)) T.Innings.eJ.b .nil au ) (aK (af (pv 3) rfl) ah)))))) (pv 4)) (bO (aK (af (pv 2) rfl) ah))))))))),?_⟩;obtain⟨n0,rfl⟩:∃ n0:Nat,ns=[n0]:=by
   match ns,hn with
   |[n0],_=>exact⟨n0,rfl⟩
  have hlen:((G.As.map (·.p)).map V.ref).length=g.played.length:=by rw[List.length_map,List.length_map,I.len]
  have k0:∀ H' D,a6 H H'→H D=none→H' D=some (.lst (iB (N.wm g n0)))→Q (.ref D) H':=k0
  unfold N.wm at k0;refine⟨_,rfl,_,_,_,_,rfl,rfl,bD.of hl,ar (j:=0) rfl,_,rfl,_,_,_,_,_,rfl,I.ob,T.ab.cl,T.ab.bF,aV,_,_,rfl,.inl (bD.of I.played),_,_,rfl,rfl,_,rfl,?_⟩;rw[hlen]
  cases hi:g.played[n0]? with
  |none=>
   rw[hi]at k0;have hge:=List.getElem?_eq_none_iff.mp hi;exact bH (decide_eq_true (by omega)) ⟨(by show 1≤sizeLine;decide),fun D hD=>k0 _ D (aA hD) hD aa⟩
  |some i=>
   rw[hi]at k0;simp only[]at k0;have hlt:=(List.getElem?_eq_some_iff.mp hi).1;obtain⟨A,hA,J,hat⟩:=I.KU hi;refine cw (decide_eq_false (by omega)) ?_;refine⟨_,rfl,_,_,_,_,_,rfl,I.ob,T.ab.cl,T.ab.bF,aV,_,rfl,_,_,_,_,rfl,rfl,bD.of hl,ar (j:=0) rfl,_,_,_,_,rfl,rfl,bD.of I.played,hat,?_⟩;obtain⟨os,hos,ds,rfl⟩:=J.sums;refine⟨_,rfl,_,_,_,_,_,rfl,J.ob,T.Innings.cl,T.Innings.kE,di,?_⟩;refine⟨_,rfl,_,_,_,_,_,rfl,hos,T.bB.cl,T.bB.jt,um,_,rfl,_,_,_,_,_,rfl,hos,T.bB.cl,T.bB.dH,nO,_,rfl,_,_,_,_,_,rfl,hos,T.bB.cl,T.bB.AX,xm,_,rfl,_,_,_,_,_,rfl,hos,T.bB.cl,T.bB.mJ,oh,_,rfl,_,_,_,_,_,rfl,hos,T.bB.cl,T.bB.kW,mK,(by show 5≤sizeLine;decide),fun D1 hD1=>?_⟩;have s1:=aA (o:=.lst [.int (N.proj i).sums.wides,.int (N.proj i).sums.noBalls,.int (N.proj i).sums.byes,.int (N.proj i).sums.legByes,.int (N.proj i).sums.qO]) hD1;have J1:=J.same s1;have ho1:=s1 _ _ hos;refine⟨_,rfl,_,_,_,_,_,rfl,J1.ob,T.Innings.cl,T.Innings.pF,dW,_,rfl,_,_,_,_,_,rfl,ho1,T.bB.cl,T.bB.bz,kY,_,rfl,_,_,_,rfl,J1.ob,fF,_,_,_,_,rfl,J1,_,rfl,_,_,_,_,_,rfl,ho1,T.bB.cl,T.bB.bS,lD,(by show 5≤sizeLine;decide),fun D2 hD2=>?_⟩;have s2:=aA (o:=.lst [.int 0,.int (N.proj i).side,.int (N.proj i).sums.runs,.int (N.proj i).falls.length,.int (N.proj i).sums.balls]) hD2;refine⟨_,rfl,_,_,_,_,rfl,rfl,aa,s2 _ _ aa,(by show 5+5≤sizeLine;decide),fun D3 hD3=>?_⟩;have s3:=aA (o:=.lst ([V.int 0,.int (N.proj i).side,.int (N.proj i).sums.runs,.int (N.proj i).falls.length,.int (N.proj i).sums.balls]++[.int (N.proj i).sums.wides,.int (N.proj i).sums.noBalls,.int (N.proj i).sums.byes,.int (N.proj i).sums.legByes,.int (N.proj i).sums.qO])) hD3;have J3:=(J1.same s2).same s3;refine⟨_,rfl,_,_,_,_,_,rfl,J3.ob,T.Innings.cl,T.Innings.gm,nV,(by show 1≤sizeLine;decide),fun D4 hD4=>?_⟩;have s4:=aA (o:=.lst [.int (N.proj i).ended]) hD4;refine⟨_,_,_,_,rfl,rfl,s4 _ _ aa,aa,(by show 10+1≤sizeLine;decide),fun D5 hD5=>?_⟩;exact k0 _ D5 ((((s1.trans s2).trans s3).trans s4).trans (aA hD5)) ((((s1.trans s2).trans s3).trans s4).free hD5) aa
end
end Sb
namespace Sb
open PySem L2
section
variable{P:Program}{w:World}{K:PySem.W.Frag}{mg:Str→Option Value}{base:Heap}{a:Ad}
theorem xG{α:Type}{f:aq.ak→List α}{m:α→List Int}{g:aq.ab}{k p:Nat}(h:g.played[k]?=none):N.zR f m g k p=[-1]:=by unfold N.zR;rw[h]
theorem xO{α:Type}{f:aq.ak→List α}{m:α→List Int}{g:aq.ab}{k p:Nat}{i:aq.ak}(h:g.played[k]?=some i)(h2:(f i)[p]?=none):N.zR f m g k p=[-1]:=by unfold N.zR;rw[h];simp only[];rw[h2]
theorem Au{α:Type}{f:aq.ak→List α}{m:α→List Int}{g:aq.ab}{k p:Nat}{i:aq.ak}{x:α}(h:g.played[k]?=some i)(h2:(f i)[p]?=some x):N.zR f m g k p=0::m x:=by unfold N.zR;rw[h];simp only[];rw[h2]
inductive Ox(a:Ad)(vs:List V)(H:Hp)(Q:VK):Prop
 |mk(t:Tag)(G:bE)(g:aq.ab)(l:Addr)(ns:List Nat)(n:Nat)(r:Sh11.Rules)(_:vs=[.ref G.p,.ref l])(_:aL a H t G g)(_:N.Sound n r g)(_:n≤40000)(_:H l=some (.lst (ib ns)))(_:ns.length=2)(_:∀ H' D,a6 H H'→H D=none→H' D=some (.lst (iB (N.o6 g (ns.getD 0 0) (ns.getD 1 0))))→Q (.ref D) H')
def MG(a:Ad):Sp:=fun vs H Q _=>Ox a vs H Q
theorem Gu:ao ["game","numbers","innings"] ["game","numbers"] (ai E3):=⟨rfl,rfl,rfl,by decide +kernel,rfl,by decide +kernel,by decide +kernel⟩
theorem M4(T:Txt K mg a):aZ P w K mg base cG 2 (a.f 119) (a.d 119) ["game","numbers"] (MG a):=by
 refine T.fn.EV.F.ok Gu (fun vs H Q E h=>?_) (fun cdv A outer s H vs Q E hr h=>?_)
 ·obtain⟨t,G,g,l,ns,n,r,rfl,_⟩:=h;rfl
 ·obtain⟨t,G,g,l,ns,n,r,rfl,I,sd,hn4,hl,hn,k0⟩:=h;refine⟨_,(ae (bN (PW.pt (ny (aT (m9 (aM aD (pv 1) aj (fun _ _=>rfl)) (ba aP rfl T.fn.c8 PySem.boot_len (aK (af (pv 0) rfl) ah)))) (qJ (aT (m9 (aM aD (pv 1) aj (fun _ _=>rfl)) (aN rfl T.fn.gz)))))) (ag (ay (bO (aK (aN rfl T.fn.eN) ah)))) aY) (ae (aX (i:=2) Gu.nd rfl (Or.inl rfl) (aM aD (af (pv 0) rfl) (aM aD (pv 1) aj (fun _ _=>rfl)) (fun _ _=>rfl))) (ag (ay (bM om (bO (aK (aN rfl T.fn.kB) ah)) (az (aM aD (af (pv 2) rfl) (aM aD (pv 1) aj (fun _ _=>rfl)) (fun _ _=>rfl)) T.aE.cl T.aE.jq (Ag T) (hr.mono (by decide)) T.aE.sT.b .nil au )))))),?_⟩;obtain⟨n0,n1,rfl⟩:∃ n0 n1:Nat,ns=[n0,n1]:=by
   match ns,hn with
   |[n0,n1],_=>exact⟨n0,n1,rfl⟩
  have hlen:((G.As.map (·.p)).map V.ref).length=g.played.length:=by rw[List.length_map,List.length_map,I.len]
  have k0:∀ H' D,a6 H H'→H D=none→H' D=some (.lst (iB (N.o6 g n0 n1)))→Q (.ref D) H':=k0
  refine⟨_,rfl,_,_,_,_,rfl,rfl,bD.of hl,ar (j:=0) rfl,_,rfl,_,_,_,_,_,rfl,I.ob,T.ab.cl,T.ab.bF,aV,_,_,rfl,.inl (bD.of I.played),_,_,rfl,rfl,_,rfl,?_⟩;rw[hlen]
  cases hi:g.played[n0]? with
  |none=>
   have ev:N.o6 g n0 n1=[-1]:=xG hi;rw[ev]at k0;have hge:=List.getElem?_eq_none_iff.mp hi;exact bH (decide_eq_true (by omega)) (vD ⟨(by show 1≤sizeLine;decide),fun D hD=>k0 _ D (aA hD) hD aa⟩)
  |some i=>
   have hlt:=(List.getElem?_eq_some_iff.mp hi).1;obtain⟨A,hA,J,hat⟩:=I.KU hi;have him:i∈g.played:=List.mem_of_getElem? hi;refine cw (decide_eq_false (by omega)) ⟨_,rfl,_,_,_,_,rfl,rfl,bD.of hl,ar (j:=1) rfl,_,_,rfl,rfl,_,rfl,?_⟩;have h11:(N.proj i).bats.length=11:=(Eh (m:=n) (by omega) (sd.ok.iT i him) (sd.ex i him) (sd.size i him)).1.bats;by_cases hp:n1<11
   ·obtain⟨x,hx⟩:∃ x,(N.proj i).bats[n1]?=some x:=⟨_,List.getElem?_eq_getElem (by omega)⟩
    have ev:N.o6 g n0 n1=0::N.MO x:=Au hi hx;rw[ev]at k0;obtain⟨p1,o1,hp1,ht1,ho1,d1,rfl⟩:=J.bats.get hx;refine cw (decide_eq_false (by omega)) ?_;refine⟨_,rfl,_,_,_,_,_,rfl,I.ob,T.ab.cl,T.ab.bF,aV,_,rfl,_,_,_,_,rfl,rfl,bD.of hl,ar (j:=0) rfl,_,_,_,_,rfl,rfl,bD.of I.played,hat,?_⟩;refine⟨(by show 1≤sizeLine;decide),fun D1 hD1=>?_⟩;have s1:=aA (o:=.lst [.int 0]) hD1;have J1:=J.same s1;have hl1:=s1 _ _ hl;have ho2:=s1 _ _ ho1;refine⟨_,rfl,_,_,_,_,_,rfl,J1.ob,T.Innings.cl,T.Innings.cH,bq,_,rfl,_,_,_,_,rfl,rfl,bD.of hl1,ar (j:=1) rfl,_,_,_,_,rfl,rfl,bD.of J1.bats.lst,ar (fe hp1),_,_,_,rfl,ho2,xV,_,_,_,rfl,ho2,fun D2 hD2=>?_⟩;have s2:=aA (o:=.lst (iB (N.MO x))) hD2;refine⟨_,_,_,_,rfl,rfl,s2 _ _ aa,aa,(by show 1+8≤sizeLine;decide),fun D3 hD3=>?_⟩;exact k0 _ D3 ((s1.trans s2).trans (aA hD3)) ((s1.trans s2).free hD3) aa
   ·have ev:N.o6 g n0 n1=[-1]:=xO hi (List.getElem?_eq_none (by show(N.proj i).bats.length≤n1;omega));rw[ev]at k0;exact bH (decide_eq_true (by omega)) ⟨(by show 1≤sizeLine;decide),fun D hD=>k0 _ D (aA hD) hD aa⟩
inductive Mt(a:Ad)(vs:List V)(H:Hp)(Q:VK):Prop
 |mk(t:Tag)(G:bE)(g:aq.ab)(l:Addr)(ns:List Nat)(n:Nat)(r:Sh11.Rules)(_:vs=[.ref G.p,.ref l])(_:aL a H t G g)(_:N.Sound n r g)(_:n≤40000)(_:H l=some (.lst (ib ns)))(_:ns.length=2)(_:∀ H' D,a6 H H'→H D=none→H' D=some (.lst (iB (N.lN g (ns.getD 0 0) (ns.getD 1 0))))→Q (.ref D) H')
def Ky(a:Ad):Sp:=fun vs H Q _=>Mt a vs H Q
theorem ET:ao ["game","numbers","innings"] ["game","numbers"] (ai BL):=⟨rfl,rfl,rfl,by decide +kernel,rfl,by decide +kernel,by decide +kernel⟩
theorem Lk(T:Txt K mg a):aZ P w K mg base cG 2 (a.f 120) (a.d 120) ["game","numbers"] (Ky a):=by
 refine T.fn.BC.F.ok ET (fun vs H Q E h=>?_) (fun cdv A outer s H vs Q E hr h=>?_)
 ·obtain⟨t,G,g,l,ns,n,r,rfl,_⟩:=h;rfl
 ·obtain⟨t,G,g,l,ns,n,r,rfl,I,sd,hn4,hl,hn,k0⟩:=h;refine⟨_,(ae (bN (PW.pt (ny (aT (m9 (aM aD (pv 1) aj (fun _ _=>rfl)) (ba aP rfl T.fn.c8 PySem.boot_len (aK (af (pv 0) rfl) ah)))) (qJ (aT (m9 (aM aD (pv 1) aj (fun _ _=>rfl)) (aN rfl T.fn.gz)))))) (ag (ay (bO (aK (aN rfl T.fn.eN) ah)))) aY) (ae (aX (i:=2) ET.nd rfl (Or.inl rfl) (aM aD (af (pv 0) rfl) (aM aD (pv 1) aj (fun _ _=>rfl)) (fun _ _=>rfl))) (ag (ay (bM om (bO (aK (aN rfl T.fn.kB) ah)) (az (aM aD (af (pv 2) rfl) (aM aD (pv 1) aj (fun _ _=>rfl)) (fun _ _=>rfl)) T.aR.cl T.aR.iL (zb T) (hr.mono (by decide)) T.aR.qT.b .nil au )))))),?_⟩;obtain⟨n0,n1,rfl⟩:∃ n0 n1:Nat,ns=[n0,n1]:=by
   match ns,hn with
   |[n0,n1],_=>exact⟨n0,n1,rfl⟩
  have hlen:((G.As.map (·.p)).map V.ref).length=g.played.length:=by rw[List.length_map,List.length_map,I.len]
  have k0:∀ H' D,a6 H H'→H D=none→H' D=some (.lst (iB (N.lN g n0 n1)))→Q (.ref D) H':=k0
  refine⟨_,rfl,_,_,_,_,rfl,rfl,bD.of hl,ar (j:=0) rfl,_,rfl,_,_,_,_,_,rfl,I.ob,T.ab.cl,T.ab.bF,aV,_,_,rfl,.inl (bD.of I.played),_,_,rfl,rfl,_,rfl,?_⟩;rw[hlen]
  cases hi:g.played[n0]? with
  |none=>
   have ev:N.lN g n0 n1=[-1]:=xG hi;rw[ev]at k0;have hge:=List.getElem?_eq_none_iff.mp hi;exact bH (decide_eq_true (by omega)) (vD ⟨(by show 1≤sizeLine;decide),fun D hD=>k0 _ D (aA hD) hD aa⟩)
  |some i=>
   have hlt:=(List.getElem?_eq_some_iff.mp hi).1;obtain⟨A,hA,J,hat⟩:=I.KU hi;have him:i∈g.played:=List.mem_of_getElem? hi;refine cw (decide_eq_false (by omega)) ⟨_,rfl,_,_,_,_,rfl,rfl,bD.of hl,ar (j:=1) rfl,_,_,rfl,rfl,_,rfl,?_⟩;have h11:(N.proj i).aI.length=11:=(Eh (m:=n) (by omega) (sd.ok.iT i him) (sd.ex i him) (sd.size i him)).1.aI;by_cases hp:n1<11
   ·obtain⟨x,hx⟩:∃ x,(N.proj i).aI[n1]?=some x:=⟨_,List.getElem?_eq_getElem (by omega)⟩
    have ev:N.lN g n0 n1=0::N.MJ x:=Au hi hx;rw[ev]at k0;obtain⟨p1,o1,hp1,ht1,ho1,d1,rfl⟩:=J.aI.get hx;refine cw (decide_eq_false (by omega)) ?_;refine⟨_,rfl,_,_,_,_,_,rfl,I.ob,T.ab.cl,T.ab.bF,aV,_,rfl,_,_,_,_,rfl,rfl,bD.of hl,ar (j:=0) rfl,_,_,_,_,rfl,rfl,bD.of I.played,hat,?_⟩;refine⟨(by show 1≤sizeLine;decide),fun D1 hD1=>?_⟩;have s1:=aA (o:=.lst [.int 0]) hD1;have J1:=J.same s1;have hl1:=s1 _ _ hl;have ho2:=s1 _ _ ho1;refine⟨_,rfl,_,_,_,_,_,rfl,J1.ob,T.Innings.cl,T.Innings.ij,d8,_,rfl,_,_,_,_,rfl,rfl,bD.of hl1,ar (j:=1) rfl,_,_,_,_,rfl,rfl,bD.of J1.aI.lst,ar (fe hp1),_,_,_,rfl,ho2,wZ,_,_,_,rfl,ho2,fun D2 hD2=>?_⟩;have s2:=aA (o:=.lst (iB (N.MJ x))) hD2;refine⟨_,_,_,_,rfl,rfl,s2 _ _ aa,aa,(by show 1+6≤sizeLine;decide),fun D3 hD3=>?_⟩;exact k0 _ D3 ((s1.trans s2).trans (aA hD3)) ((s1.trans s2).free hD3) aa
   ·have ev:N.lN g n0 n1=[-1]:=xO hi (List.getElem?_eq_none (by show(N.proj i).aI.length≤n1;omega));rw[ev]at k0;exact bH (decide_eq_true (by omega)) ⟨(by show 1≤sizeLine;decide),fun D hD=>k0 _ D (aA hD) hD aa⟩
inductive QD(a:Ad)(vs:List V)(H:Hp)(Q:VK):Prop
 |mk(t:Tag)(G:bE)(g:aq.ab)(l:Addr)(ns:List Nat)(n:Nat)(r:Sh11.Rules)(_:vs=[.ref G.p,.ref l])(_:aL a H t G g)(_:N.Sound n r g)(_:n≤40000)(_:H l=some (.lst (ib ns)))(_:ns.length=2)(_:∀ H' D,a6 H H'→H D=none→H' D=some (.lst (iB (N.Az g (ns.getD 0 0) (ns.getD 1 0))))→Q (.ref D) H')
def OO(a:Ad):Sp:=fun vs H Q _=>QD a vs H Q
theorem LF:ao ["game","numbers","falls"] ["game","numbers"] (ai Lj):=⟨rfl,rfl,rfl,by decide +kernel,rfl,by decide +kernel,by decide +kernel⟩
theorem Pf(T:Txt K mg a):aZ P w K mg base cG 1 (a.f 121) (a.d 121) ["game","numbers"] (OO a):=by
 refine T.fn.JY.F.ok LF (fun vs H Q E h=>?_) (fun cdv A outer s H vs Q E hr h=>?_)
 ·obtain⟨t,G,g,l,ns,n,r,rfl,_⟩:=h;rfl
 ·obtain⟨t,G,g,l,ns,n,r,rfl,I,sd,hn4,hl,hn,k0⟩:=h;refine⟨_,(ae (bN (aT (m9 (aM aD (pv 1) aj (fun _ _=>rfl)) (ba aP rfl T.fn.c8 PySem.boot_len (aK (af (pv 0) rfl) ah)))) (ag (ay (bO (aK (aN rfl T.fn.eN) ah)))) aY) (ae (aX (i:=2) LF.nd rfl (Or.inl rfl) (af (aM aD (af (pv 0) rfl) (aM aD (pv 1) aj (fun _ _=>rfl)) (fun _ _=>rfl)) rfl)) (ae (bN (aT (m9 (aM aD (pv 1) aj (fun _ _=>rfl)) (ba aP rfl T.fn.c8 PySem.boot_len (aK (pv 2) ah)))) (ag (ay (bO (aK (aN rfl T.fn.eN) ah)))) aY) (ag (ay (bM om (bO (aK (aN rfl T.fn.kB) ah)) (gG eK rfl T.fn.pV PyProof.Rows.boot_list (aK (aM aD (pv 2) (aM aD (pv 1) aj (fun _ _=>rfl)) (fun _ _=>rfl)) ah)))))))),?_⟩;obtain⟨n0,n1,rfl⟩:∃ n0 n1:Nat,ns=[n0,n1]:=by
   match ns,hn with
   |[n0,n1],_=>exact⟨n0,n1,rfl⟩
  have hlen:((G.As.map (·.p)).map V.ref).length=g.played.length:=by rw[List.length_map,List.length_map,I.len]
  have k0:∀ H' D,a6 H H'→H D=none→H' D=some (.lst (iB (N.Az g n0 n1)))→Q (.ref D) H':=k0
  refine⟨_,rfl,_,_,_,_,rfl,rfl,bD.of hl,ar (j:=0) rfl,_,rfl,_,_,_,_,_,rfl,I.ob,T.ab.cl,T.ab.bF,aV,_,_,rfl,.inl (bD.of I.played),_,_,rfl,rfl,_,rfl,?_⟩;rw[hlen]
  cases hi:g.played[n0]? with
  |none=>
   have ev:N.Az g n0 n1=[-1]:=xG hi;rw[ev]at k0;have hge:=List.getElem?_eq_none_iff.mp hi;exact bH (decide_eq_true (by omega)) ⟨(by show 1≤sizeLine;decide),fun D hD=>k0 _ D (aA hD) hD aa⟩
  |some i=>
   have hlt:=(List.getElem?_eq_some_iff.mp hi).1;obtain⟨A,hA,J,hat⟩:=I.KU hi;have him:i∈g.played:=List.mem_of_getElem? hi;refine cw (decide_eq_false (by omega)) ?_;refine⟨_,rfl,_,_,_,_,_,rfl,I.ob,T.ab.cl,T.ab.bF,aV,_,rfl,_,_,_,_,rfl,rfl,bD.of hl,ar (j:=0) rfl,_,_,_,_,rfl,rfl,bD.of I.played,hat,_,_,_,_,_,rfl,J.ob,T.Innings.cl,T.Innings.rn,hV,?_⟩;refine⟨_,rfl,_,_,_,_,rfl,rfl,bD.of hl,ar (j:=1) rfl,_,rfl,_,_,rfl,.inl (bD.of J.falls.lst),_,_,rfl,rfl,_,rfl,?_⟩;rw[List.length_map,J.falls.len]
   cases hx:(N.proj i).falls[n1]? with
   |none=>
    have ev:N.Az g n0 n1=[-1]:=xO hi hx;rw[ev]at k0;have hge:=List.getElem?_eq_none_iff.mp hx;exact bH (decide_eq_true (by omega)) ⟨(by show 1≤sizeLine;decide),fun D hD=>k0 _ D (aA hD) hD aa⟩
   |some x=>
    have hlt2:=(List.getElem?_eq_some_iff.mp hx).1;have ev:N.Az g n0 n1=0::N.zd x:=Au hi hx;rw[ev]at k0;refine cw (decide_eq_false (by omega)) ?_;refine⟨(by show 1≤sizeLine;decide),fun D1 hD1=>?_⟩;have s1:=aA (o:=.lst [.int 0]) hD1;have J1:=J.same s1;have hl1:=s1 _ _ hl;obtain⟨p1,o1,hp1,ht1,ho1,hO⟩:=J1.falls.get hx;have hO2:o1=HO.tup (iB (N.zd x)):=hO;subst hO2;refine⟨_,rfl,_,rfl,_,_,_,_,rfl,rfl,bD.of hl1,ar (j:=1) rfl,_,_,_,_,rfl,rfl,bD.of J1.falls.lst,ar (fe hp1),_,_,rfl,.inr (tK.of ho1),fun D2 hD2=>?_⟩;have s2:=aA (o:=.lst (iB (N.zd x))) hD2;refine⟨_,_,_,_,rfl,rfl,s2 _ _ aa,aa,(by show 1+3≤sizeLine;decide),fun D3 hD3=>?_⟩;exact k0 _ D3 ((s1.trans s2).trans (aA hD3)) ((s1.trans s2).free hD3) aa
inductive OW(a:Ad)(vs:List V)(H:Hp)(Q:VK):Prop
 |mk(t:Tag)(G:bE)(g:aq.ab)(l:Addr)(ns:List Nat)(n:Nat)(r:Sh11.Rules)(_:vs=[.ref G.p,.ref l])(_:aL a H t G g)(_:N.Sound n r g)(_:n≤40000)(_:H l=some (.lst (ib ns)))(_:ns.length=2)(_:∀ H' D,a6 H H'→H D=none→H' D=some (.lst (iB (N.uv g (ns.getD 0 0) (ns.getD 1 0))))→Q (.ref D) H')
def NL(a:Ad):Sp:=fun vs H Q _=>OW a vs H Q
theorem IY:ao ["game","numbers","stands"] ["game","numbers"] (ai HU):=⟨rfl,rfl,rfl,by decide +kernel,rfl,by decide +kernel,by decide +kernel⟩
theorem Oh(T:Txt K mg a):aZ P w K mg base cG 2 (a.f 122) (a.d 122) ["game","numbers"] (NL a):=by
 refine T.fn.Hq.F.ok IY (fun vs H Q E h=>?_) (fun cdv A outer s H vs Q E hr h=>?_)
 ·obtain⟨t,G,g,l,ns,n,r,rfl,_⟩:=h;rfl
 ·obtain⟨t,G,g,l,ns,n,r,rfl,I,sd,hn4,hl,hn,k0⟩:=h;refine⟨_,(ae (bN (aT (m9 (aM aD (pv 1) aj (fun _ _=>rfl)) (ba aP rfl T.fn.c8 PySem.boot_len (aK (af (pv 0) rfl) ah)))) (ag (ay (bO (aK (aN rfl T.fn.eN) ah)))) aY) (ae (aX (i:=2) IY.nd rfl (Or.inl rfl) (af (aM aD (af (pv 0) rfl) (aM aD (pv 1) aj (fun _ _=>rfl)) (fun _ _=>rfl)) rfl)) (ae (bN (aT (m9 (aM aD (pv 1) aj (fun _ _=>rfl)) (ba aP rfl T.fn.c8 PySem.boot_len (aK (pv 2) ah)))) (ag (ay (bO (aK (aN rfl T.fn.eN) ah)))) aY) (ag (ay (bM om (bO (aK (aN rfl T.fn.kB) ah)) (az (aM aD (pv 2) (aM aD (pv 1) aj (fun _ _=>rfl)) (fun _ _=>rfl)) T.Stand.cl T.Stand.ka (Bd T) (hr.mono (by decide)) T.Stand.vm.b .nil au ))))))),?_⟩;obtain⟨n0,n1,rfl⟩:∃ n0 n1:Nat,ns=[n0,n1]:=by
   match ns,hn with
   |[n0,n1],_=>exact⟨n0,n1,rfl⟩
  have hlen:((G.As.map (·.p)).map V.ref).length=g.played.length:=by rw[List.length_map,List.length_map,I.len]
  have k0:∀ H' D,a6 H H'→H D=none→H' D=some (.lst (iB (N.uv g n0 n1)))→Q (.ref D) H':=k0
  refine⟨_,rfl,_,_,_,_,rfl,rfl,bD.of hl,ar (j:=0) rfl,_,rfl,_,_,_,_,_,rfl,I.ob,T.ab.cl,T.ab.bF,aV,_,_,rfl,.inl (bD.of I.played),_,_,rfl,rfl,_,rfl,?_⟩;rw[hlen]
  cases hi:g.played[n0]? with
  |none=>
   have ev:N.uv g n0 n1=[-1]:=xG hi;rw[ev]at k0;have hge:=List.getElem?_eq_none_iff.mp hi;exact bH (decide_eq_true (by omega)) ⟨(by show 1≤sizeLine;decide),fun D hD=>k0 _ D (aA hD) hD aa⟩
  |some i=>
   have hlt:=(List.getElem?_eq_some_iff.mp hi).1;obtain⟨A,hA,J,hat⟩:=I.KU hi;have him:i∈g.played:=List.mem_of_getElem? hi;refine cw (decide_eq_false (by omega)) ?_;refine⟨_,rfl,_,_,_,_,_,rfl,I.ob,T.ab.cl,T.ab.bF,aV,_,rfl,_,_,_,_,rfl,rfl,bD.of hl,ar (j:=0) rfl,_,_,_,_,rfl,rfl,bD.of I.played,hat,_,_,_,_,_,rfl,J.ob,T.Innings.cl,T.Innings.jX,dJ,?_⟩;refine⟨_,rfl,_,_,_,_,rfl,rfl,bD.of hl,ar (j:=1) rfl,_,rfl,_,_,rfl,.inl (bD.of J.stands.lst),_,_,rfl,rfl,_,rfl,?_⟩;rw[List.length_map,J.stands.len]
   cases hx:(N.proj i).stands[n1]? with
   |none=>
    have ev:N.uv g n0 n1=[-1]:=xO hi hx;rw[ev]at k0;have hge:=List.getElem?_eq_none_iff.mp hx;exact bH (decide_eq_true (by omega)) ⟨(by show 1≤sizeLine;decide),fun D hD=>k0 _ D (aA hD) hD aa⟩
   |some x=>
    have hlt2:=(List.getElem?_eq_some_iff.mp hx).1;have ev:N.uv g n0 n1=0::N.xH x:=Au hi hx;rw[ev]at k0;refine cw (decide_eq_false (by omega)) ?_;refine⟨(by show 1≤sizeLine;decide),fun D1 hD1=>?_⟩;have s1:=aA (o:=.lst [.int 0]) hD1;have J1:=J.same s1;have hl1:=s1 _ _ hl;obtain⟨p1,o1,hp1,ht1,ho2,d1,rfl⟩:=J1.stands.get hx;refine⟨_,rfl,_,rfl,_,_,_,_,rfl,rfl,bD.of hl1,ar (j:=1) rfl,_,_,_,_,rfl,rfl,bD.of J1.stands.lst,ar (fe hp1),_,_,_,rfl,ho2,y6,_,_,_,rfl,ho2,fun D2 hD2=>?_⟩;have s2:=aA (o:=.lst (iB (N.xH x))) hD2;refine⟨_,_,_,_,rfl,rfl,s2 _ _ aa,aa,(by show 1+4≤sizeLine;decide),fun D3 hD3=>?_⟩;exact k0 _ D3 ((s1.trans s2).trans (aA hD3)) ((s1.trans s2).free hD3) aa
theorem QL{x:Str}{g:TG}{tt:TT}{te:TE}{vs:List Nat}{σ:L2.St}{H1:Hp}{D:Addr}{Qd:Hp→Prop}(Pv:Nat→Hp→Prop)(h0:Pv 0 (upd H1 D (.lst [])))
  (hs:∀ i c H,x.cps[i]?=some c→Pv i H→g (.str ⟨#[c]⟩) (wipe σ vs) H fun σ2 H2=>wipe σ2 vs=wipe σ vs∧tt σ2 H2 fun b H3=>
   if b=true then te σ2 H3 fun y H4=>∃ acc,H4 D=some (.lst acc)∧acc.length<sizeLine∧Pv (i+1) (upd H4 D (.lst (acc++[y])))else Pv (i+1) H3) (hd:∀ H,Pv x.cps.size H→Qd H) :
  ∃ W:Nat→Nat→Hp→Prop,(∃ m,W 0 m (upd H1 D (.lst [])))∧∀ i m H,W i m H→
   ((QZ x).stop i H∧Qd H)∨((QZ x).go i H∧∃ Nx:Hp→Prop,(∀ H',Nx H'→∃ m',m'<m∧W (i+1) m' H')∧∀ v H',(QZ x).Pq i H v H'→g v (wipe σ vs) H' fun σ2 H2=>wipe σ2 vs=wipe σ vs∧tt σ2 H2 fun b H3=>
    if b=true then te σ2 H3 fun y H4=>∃ acc,H4 D=some (.lst acc)∧acc.length<sizeLine∧Nx (upd H4 D (.lst (acc++[y])))else Nx H3):=by
 refine⟨fun i m H=>m=x.cps.size-i∧i≤x.cps.size∧Pv i H,⟨x.cps.size,by simp,Nat.zero_le _,h0⟩,?_⟩
 rintro i m H ⟨rfl,hi,p⟩
 by_cases hlt:i<x.cps.size
 ·refine .inr ⟨hlt,Pv (i+1),fun H' p'=>⟨x.cps.size-(i+1),by omega,rfl,hlt,p'⟩,fun v H' y=>?_⟩;obtain⟨e,c,hc,ev⟩:=y;subst e ev;exact hs i c _ hc p
 ·have e:i=x.cps.size:=by omega
  subst e;exact .inl ⟨Nat.le_refl _,hd H p⟩
theorem Mj{l:List aq.Over}{x:aq.Over}(h:x∈l):(x.notes.map fun w=>w.length+1).sum≤((N.bg l).map fun w=>w.length+1).sum:=by
 induction l with
 |nil=>simp at h
 |cons y r ih=>
  have e:N.bg (y::r)=y.notes++N.bg r:=by simp[N.bg]
  rw[e,List.map_append,List.sum_append];rcases List.mem_cons.mp h with z|z
  ·subst z;omega
  ·have:=ih z;omega
theorem yX:∀ ws:List Sh11.Bytes,(Sh11.joined ws).length≤(ws.map fun w=>w.length+1).sum
 |[]=>by simp[Sh11.joined]
 |[b]=>by simp[Sh11.joined]
 |b::c::r=>by
  have ih:=yX (c::r);show(b++(32::Sh11.joined (c::r))).length≤((b::c::r).map fun w=>w.length+1).sum;rw[List.map_cons,List.sum_cons,List.length_append,List.length_cons];omega
theorem text_len{g:aq.ab}{n:Nat}{r:Sh11.Rules}(sd:N.Sound n r g){i:aq.ak}(hi:i∈g.played){j:Nat}{o:N.Over}(ho:(N.proj i).overs[j]?=some o):((N.gT (N.proj i) j o).map fun w=>w.length+1).sum≤7*n+1:=by
 have er:=N.w6 0 i.overs j;have ho':(N.kD 0 i.overs)[j]?=some o:=ho
 cases q:i.overs[j]? with
 |none=>rw[q]at er;rw[er]at ho';cases ho'
 |some x=>
  rw[N.JJ q ho];have h1:=Mj (List.mem_of_getElem? q);have h2:=(sd.size i hi).w;unfold N.wsum at h2
  split at h2<;>omega
inductive Qp(a:Ad)(vs:List V)(H:Hp)(Q:VK):Prop
 |mk(t:Tag)(G:bE)(g:aq.ab)(l:Addr)(ns:List Nat)(n:Nat)(r:Sh11.Rules)(_:vs=[.ref G.p,.ref l])(_:aL a H t G g)(_:N.Sound n r g)(_:n≤40000)(_:H l=some (.lst (ib ns)))(_:ns.length=3)(_:∀ H' D,a6 H H'→H D=none→H' D=some (.lst (iB (N.BW g (ns.getD 0 0) (ns.getD 1 0) (ns.getD 2 0))))→Q (.ref D) H')
def Pb(a:Ad):Sp:=fun vs H Q _=>Qp a vs H Q
theorem zW:ao ["game","numbers","innings","text","sign"] ["game","numbers"] (ai K8):=⟨rfl,rfl,rfl,by decide +kernel,rfl,by decide +kernel,by decide +kernel⟩
theorem OV(T:Txt K mg a):aZ P w K mg base cG 2 (a.f 123) (a.d 123) ["game","numbers"] (Pb a):=by
 refine T.fn.KJ.F.ok zW (fun vs H Q E h=>?_) (fun cdv A outer s H vs Q E hr h=>?_)
 ·obtain⟨t,G,g,l,ns,n,r,rfl,_⟩:=h;rfl
 ·obtain⟨t,G,g,l,ns,n,r,rfl,I,sd,hn4,hl,hn,k0⟩:=h;refine⟨_,(ae (bN (aT (m9 (aM aD (pv 1) aj (fun _ _=>rfl)) (ba aP rfl T.fn.c8 PySem.boot_len (aK (af (pv 0) rfl) ah)))) (ag (ay (bO (aK (aN rfl T.fn.eN) ah)))) aY) (ae (aX (i:=2) zW.nd rfl (Or.inl rfl) (aM aD (af (pv 0) rfl) (aM aD (pv 1) aj (fun _ _=>rfl)) (fun _ _=>rfl))) (ae (bN (aT (m9 (aM aD (pv 1) aj (fun _ _=>rfl)) (ba aP rfl T.fn.c8 PySem.boot_len (aK (af (pv 2) rfl) ah)))) (ag (ay (bO (aK (aN rfl T.fn.eN) ah)))) aY) (ae (aX (i:=3) zW.nd rfl (Or.inl rfl) (aU (pv 2) T.Innings.cl T.Innings.gn (wC T) (hr.mono (by decide)) T.Innings.oF.b au (aK (aM aD (pv 1) aj (fun _ _=>rfl)) ah))) (ae (bN (aT (kT (ba t6 rfl T.fn.c8 PySem.boot_len (aK (pv 3) ah)) (aM aD (pv 1) aj (fun _ _=>rfl)))) (ag (ay (bO (aK (ba t6 rfl T.fn.c8 PySem.boot_len (aK (pv 3) ah)) ah)))) aY) (ag (ay (bM om (bO (aK (ba t6 rfl T.fn.c8 PySem.boot_len (aK (pv 3) ah)) ah)) (B3 rfl zW.nd (Qb (pv 3)) (lL (own:=[("sign",4)]) (by kernel_rfl)) (fun _ _ _ _ _=>mY (i:=4) zW.nd rfl (Or.inl rfl)) (fun _ _ _ _ _=>by exact xC) (fun _ _ _ _ _=>by exact (ba N7 rfl T.fn.Og PyProof.Rows.boot_ord (aK (pv 4) ah)))))))))))),?_⟩
  obtain⟨n0,n1,n2,rfl⟩:∃ n0 n1 n2:Nat,ns=[n0,n1,n2]:=by
   match ns,hn with
   |[n0,n1,n2],_=>exact⟨n0,n1,n2,rfl⟩
  have hlen:((G.As.map (·.p)).map V.ref).length=g.played.length:=by rw[List.length_map,List.length_map,I.len]
  have k0:∀ H' D,a6 H H'→H D=none→H' D=some (.lst (iB (N.BW g n0 n1 n2)))→Q (.ref D) H':=k0
  unfold N.BW at k0;refine⟨_,rfl,_,_,_,_,rfl,rfl,bD.of hl,ar (j:=0) rfl,_,rfl,_,_,_,_,_,rfl,I.ob,T.ab.cl,T.ab.bF,aV,_,_,rfl,.inl (bD.of I.played),_,_,rfl,rfl,_,rfl,?_⟩;rw[hlen]
  cases hi:g.played[n0]? with
  |none=>
   rw[hi]at k0;have hge:=List.getElem?_eq_none_iff.mp hi;exact bH (decide_eq_true (by omega)) ⟨(by show 1≤sizeLine;decide),fun D hD=>k0 _ D (aA hD) hD aa⟩
  |some i=>
   rw[hi]at k0;simp only[]at k0;have hlt:=(List.getElem?_eq_some_iff.mp hi).1;obtain⟨A,hA,J,hat⟩:=I.KU hi;have him:i∈g.played:=List.mem_of_getElem? hi;refine cw (decide_eq_false (by omega)) ?_;refine⟨_,rfl,_,_,_,_,_,rfl,I.ob,T.ab.cl,T.ab.bF,aV,_,rfl,_,_,_,_,rfl,rfl,bD.of hl,ar (j:=0) rfl,_,_,_,_,rfl,rfl,bD.of I.played,hat,?_⟩;refine⟨_,rfl,_,_,_,_,rfl,rfl,bD.of hl,ar (j:=1) rfl,_,rfl,_,_,_,_,_,rfl,J.ob,T.Innings.cl,T.Innings.dz,a9,_,_,rfl,.inl (bD.of J.overs.lst),_,_,rfl,rfl,_,rfl,?_⟩;rw[List.length_map,J.overs.len]
   cases hx:(N.proj i).overs[n1]? with
   |none=>
    rw[hx]at k0;have hge:=List.getElem?_eq_none_iff.mp hx;exact bH (decide_eq_true (by omega)) ⟨(by show 1≤sizeLine;decide),fun D hD=>k0 _ D (aA hD) hD aa⟩
   |some x=>
    rw[hx]at k0;simp only[]at k0;have hlt2:=(List.getElem?_eq_some_iff.mp hx).1;have hz:=text_len sd him hx;refine cw (decide_eq_false (by omega)) ?_;refine⟨_,rfl,_,_,_,rfl,J.ob,uK,_,rfl,_,_,_,_,rfl,rfl,bD.of hl,ar (j:=1) rfl,t,n0,A,_,x,n1,rfl,J,hx,by omega,fun H1 s1=>?_⟩;have hj:=yX (N.gT (N.proj i) n1 x)
    generalize hT:Sh11.joined (N.gT (N.proj i) n1 x)=T0 at *
    have hl1:=s1 _ _ hl;have hT1:(strOf T0).length≤sizeLine:=by rw[pw];exact Nat.le_trans (show T0.length≤1000000 by omega) (by decide)
    refine⟨_,rfl,_,rfl,hT1,_,rfl,_,_,_,_,rfl,rfl,bD.of hl1,ar (j:=2) rfl,_,_,rfl,rfl,_,rfl,?_⟩;rw[pw];by_cases hr5:n2<T0.length
    ·rw[if_pos hr5]at k0;refine bH (decide_eq_true (by omega)) ⟨_,rfl,_,rfl,hT1,(by show 1≤sizeLine;decide),fun D hD=>?_⟩;rw[pw];exact k0 _ D (s1.trans (aA hD)) (s1.free hD) aa
    ·rw[if_neg hr5]at k0;refine cw (decide_eq_false (by omega)) ⟨_,rfl,_,rfl,hT1,(by show 1≤sizeLine;decide),fun D1 hD1=>?_⟩;rw[pw];have s2:=aA (o:=.lst [.int T0.length]) hD1;refine⟨_,rfl,_,rfl,fun D2 hD2=>QL (x:=strOf T0) (fun i H2=>H2=upd (upd H1 D1 (.lst [.int T0.length])) D2 (.lst (((T0.take i).map UInt8.toNat).map fun c=>V.int (c:Nat)))) rfl ?_ ?_⟩
     ·rintro i c H2 hc rfl
      have hc':(T0.map UInt8.toNat)[i]?=some c:=by
       have:((T0.map UInt8.toNat).toArray)[i]?=some c:=hc
       simpa using this
      have hi2:i<T0.length:=by
       have:=(List.getElem?_eq_some_iff.mp hc').1
       simpa using this
      refine⟨rfl,_,rfl,_,rfl,rfl,_,aa,?_,?_⟩
      ·rw[List.length_map,List.length_map,List.length_take];exact m5 (by omega)
      ·rw[jz]
       congr 2
       rw[List.take_succ_eq_append_getElem hi2,List.map_append,List.map_append]
       congr 1
       have:T0[i].toNat=c:=by
        rw[List.getElem?_map,List.getElem?_eq_getElem hi2]at hc';exact Option.some.inj hc'
       rw[←this];rfl
     ·rintro H2 rfl
      have esz:(strOf T0).cps.size=T0.length:=pw T0;rw[esz,List.take_length];have s3:=aA (o:=.lst ((T0.map UInt8.toNat).map fun c=>V.int (c:Nat))) hD2;refine⟨_,_,_,_,rfl,rfl,s3 _ _ aa,aa,?_,fun D3 hD3=>?_⟩
      ·rw[List.length_map,List.length_map];show 1+T0.length≤sizeLine;exact Nat.le_trans (show 1+T0.length≤1000000 by omega) (by decide)
      ·have ec:((T0.map UInt8.toNat).map fun c=>V.int (c:Nat))=iB (N.codes T0):=by
        unfold N.codes;show _=(T0.map fun x=>((x.toNat:Nat):Int)).map V.int;rw[List.map_map,List.map_map];rfl
       exact k0 _ D3 (((s1.trans s2).trans s3).trans (aA hD3)) (((s1.trans s2).trans s3).free hD3) (by rw[aa,ec];rfl)
inductive Na(a:Ad)(vs:List V)(H:Hp)(Q:VK):Prop
 |mk(t:Tag)(G:bE)(g:aq.ab)(l:Addr)(ns:List Nat)(n:Nat)(r:Sh11.Rules)(_:vs=[.ref G.p,.ref l])(_:aL a H t G g)(_:N.Sound n r g)(_:n≤40000)(_:H l=some (.lst (ib ns)))(_:ns.length=0)(_:∀ H' D,a6 H H'→H D=none→H' D=some (.lst (iB (N.qW g)))→Q (.ref D) H')
def M0(a:Ad):Sp:=fun vs H Q _=>Na a vs H Q
theorem L7:ao ["game","numbers"] ["game","numbers"] (ai Ep):=⟨rfl,rfl,rfl,by decide +kernel,rfl,by decide +kernel,by decide +kernel⟩
theorem Mg(T:Txt K mg a):aZ P w K mg base cG 7 (a.f 124) (a.d 124) ["game","numbers"] (M0 a):=by
 refine T.fn.Fc.F.ok L7 (fun vs H Q E h=>?_) (fun cdv A outer s H vs Q E hr h=>?_)
 ·obtain⟨t,G,g,l,ns,n,r,rfl,_⟩:=h;rfl
 ·obtain⟨t,G,g,l,ns,n,r,rfl,I,sd,hn4,hl,hn,k0⟩:=h;refine⟨_,(ag (ay (bM om (bO (aK (aN rfl T.fn.kB) ah)) (az (pv 0) T.ab.cl T.ab.lM (C0 T) (hr.mono (by decide)) T.ab.wY.b .nil au )))),?_⟩;have hlen:((G.As.map (·.p)).map V.ref).length=g.played.length:=by rw[List.length_map,List.length_map,I.len]
  have k0:∀ H' D,a6 H H'→H D=none→H' D=some (.lst (iB (N.qW g)))→Q (.ref D) H':=k0
  unfold N.qW at k0;have hr5:0<g.rules.sides:=by
   have:=sd.ok.rules;unfold Sh11.Rules.ok at this;rw[decide_eq_true_eq]at this;omega
  refine⟨(by show 1≤sizeLine;decide),fun D1 hD1=>?_⟩;have s1:=aA (o:=.lst [.int 0]) hD1;have I1:=I.same s1;refine⟨_,rfl,_,_,_,rfl,I1.ob,zX,t,G,g,rfl,I1,i4 (by omega) sd,hr5,fun H2 D2 s2 hD2 h2=>?_⟩;refine⟨_,_,_,_,rfl,rfl,s2 _ _ aa,h2,?_,fun D3 hD3=>?_⟩
  ·have:(N.qw g).length=2:=by
    unfold N.qw;split
    ·rfl
    ·split
     ·rfl
     ·split
      ·rfl
      ·split
       ·rfl
       ·split<;>rfl
   rw[List.length_map,this];show 1+2≤sizeLine
   decide
  ·exact k0 _ D3 ((s1.trans s2).trans (aA hD3)) ((s1.trans s2).free hD3) aa
noncomputable def R7(k:Nat):Nat:=[0,1,2,2,2,2,3,0].getD k 0
noncomputable def readM(g:aq.ab)(k:Nat)(ns:List Nat):List Int:=match k with
 |0=>N.Kh g
 |1=>N.wm g (ns.getD 0 0)
 |2=>N.o6 g (ns.getD 0 0) (ns.getD 1 0)
 |3=>N.lN g (ns.getD 0 0) (ns.getD 1 0)
 |4=>N.Az g (ns.getD 0 0) (ns.getD 1 0)
 |5=>N.uv g (ns.getD 0 0) (ns.getD 1 0)
 |6=>N.BW g (ns.getD 0 0) (ns.getD 1 0) (ns.getD 2 0)
 |_=>N.qW g
inductive Qa(a:Ad)(vs:List V)(H:Hp)(Q:VK):Prop
 |mk(t:Tag)(G:bE)(g:aq.ab)(l:Addr)(ns:List Nat)(n:Nat)(r:Sh11.Rules)(k:Nat)(_:vs=[.ref G.p,.int k,.ref l])(_:aL a H t G g)(_:N.Sound n r g)(_:n≤40000)(_:H l=some (.lst (ib ns)))(_:k≤7)(_:ns.length=R7 k)(_:∀ H' D,a6 H H'→H D=none→H' D=some (.lst (iB (readM g k ns)))→Q (.ref D) H')
def OL(a:Ad):Sp:=fun vs H Q _=>Qa a vs H Q
theorem L1:ao ["game","place","numbers","reader"] ["game","place","numbers"] (ai Kk):=⟨rfl,rfl,rfl,by decide +kernel,rfl,by decide +kernel,by decide +kernel⟩
theorem Pc(T:Txt K mg a):aZ P w K mg base cG 8 (a.f 125) (a.d 125) ["game","place","numbers"] (OL a):=by
 refine T.fn.Ln.F.ok L1 (fun vs H Q E h=>?_) (fun cdv A outer s H vs Q E hr h=>?_)
 ·obtain⟨t,G,g,l,ns,n,r,k,rfl,_⟩:=h;rfl
 ·obtain⟨t,G,g,l,ns,n,r,k,rfl,I,sd,hn4,hl,hk7,hn,k0⟩:=h;refine⟨_,(ae (aX (i:=3) L1.nd rfl (Or.inl rfl) (aM dU (Ge rfl T.fn.HN) (pv 1) (fun _ _=>rfl))) (ag (ay (E8 3 (aK (pv 0) (aK (pv 2) ah)))))),?_⟩;have hk:k=0∨k=1∨k=2∨k=3∨k=4∨k=5∨k=6∨k=7:=by omega
  rcases hk with rfl|rfl|rfl|rfl|rfl|rfl|rfl|rfl
  ·exact⟨_,rfl,_,_,_,_,rfl,rfl,T.fn.mS _,(ar (j:=0) rfl),_,rfl,T.fn.Nh.F.kp,_,rfl,_,rfl,_,_,_,_,Qe T,hr.mono (by decide),T.fn.Nh.b,t,G,g,l,ns,n,r,rfl,I,sd,hn4,hl,hn,k0⟩
  ·exact⟨_,rfl,_,_,_,_,rfl,rfl,T.fn.mS _,(ar (j:=1) rfl),_,rfl,T.fn.G7.F.kp,_,rfl,_,rfl,_,_,_,_,Ou T,hr.mono (by decide),T.fn.G7.b,t,G,g,l,ns,n,r,rfl,I,sd,hn4,hl,hn,k0⟩
  ·exact⟨_,rfl,_,_,_,_,rfl,rfl,T.fn.mS _,(ar (j:=2) rfl),_,rfl,T.fn.EV.F.kp,_,rfl,_,rfl,_,_,_,_,M4 T,hr.mono (by decide),T.fn.EV.b,t,G,g,l,ns,n,r,rfl,I,sd,hn4,hl,hn,k0⟩
  ·exact⟨_,rfl,_,_,_,_,rfl,rfl,T.fn.mS _,(ar (j:=3) rfl),_,rfl,T.fn.BC.F.kp,_,rfl,_,rfl,_,_,_,_,Lk T,hr.mono (by decide),T.fn.BC.b,t,G,g,l,ns,n,r,rfl,I,sd,hn4,hl,hn,k0⟩
  ·exact⟨_,rfl,_,_,_,_,rfl,rfl,T.fn.mS _,(ar (j:=4) rfl),_,rfl,T.fn.JY.F.kp,_,rfl,_,rfl,_,_,_,_,Pf T,hr.mono (by decide),T.fn.JY.b,t,G,g,l,ns,n,r,rfl,I,sd,hn4,hl,hn,k0⟩
  ·exact⟨_,rfl,_,_,_,_,rfl,rfl,T.fn.mS _,(ar (j:=5) rfl),_,rfl,T.fn.Hq.F.kp,_,rfl,_,rfl,_,_,_,_,Oh T,hr.mono (by decide),T.fn.Hq.b,t,G,g,l,ns,n,r,rfl,I,sd,hn4,hl,hn,k0⟩
  ·exact⟨_,rfl,_,_,_,_,rfl,rfl,T.fn.mS _,(ar (j:=6) rfl),_,rfl,T.fn.KJ.F.kp,_,rfl,_,rfl,_,_,_,_,OV T,hr.mono (by decide),T.fn.KJ.b,t,G,g,l,ns,n,r,rfl,I,sd,hn4,hl,hn,k0⟩
  ·exact⟨_,rfl,_,_,_,_,rfl,rfl,T.fn.mS _,(ar (j:=7) rfl),_,rfl,T.fn.Fc.F.kp,_,rfl,_,rfl,_,_,_,_,Mg T,hr.mono (by decide),T.fn.Fc.b,t,G,g,l,ns,n,r,rfl,I,sd,hn4,hl,hn,k0⟩
end
end Sb
namespace Sb
open PySem L2
section
variable{P:Program}{w:World}{K:PySem.W.Frag}{mg:Str→Option Value}{base:Heap}{a:Ad}
theorem MU(l:List Nat):Sh11Neutral.«nats» (l.map fun(n:Nat)=>(n:Int))=l:=by
 unfold Sh11Neutral.«nats»;rw[List.map_map]
 conv=>rhs;rw[←List.map_id l]
 apply List.map_congr_left;intro n _;exact Int.toNat_natCast n
theorem Ql{k:Nat}{ns:List Nat}{e:Sh11.Event}(h1:1≤k)(h9:k≤9)(h:Sh11Neutral.eventOf (k::ns)=some e):aq.GY e:=by
 have hk:k=1∨k=2∨k=3∨k=4∨k=5∨k=6∨k=7∨k=8∨k=9:=by omega
 rcases hk with rfl|rfl|rfl|rfl|rfl|rfl|rfl|rfl|rfl
 ·simp only[Sh11Neutral.eventOf,List.getD_cons_zero]at h
  split at h
  ·rename_i z;cases h;exact z
  ·cases h
 ·simp only[Sh11Neutral.eventOf,List.getD_cons_zero]at h
  split at h
  ·rename_i z;cases h;exact z
  ·cases h
 ·simp only[Sh11Neutral.eventOf,List.getD_cons_zero]at h
  split at h
  ·rename_i z;cases h;exact z
  ·cases h
 ·simp only[Sh11Neutral.eventOf,List.getD_cons_zero]at h
  split at h
  ·rename_i z;cases h;exact z
  ·cases h
 ·simp only[Sh11Neutral.eventOf,List.getD_cons_zero]at h
  split at h
  ·rename_i z;cases h;exact z.1
  ·cases h
 ·simp only[Sh11Neutral.eventOf,List.getD_cons_zero]at h
  split at h
  ·rename_i z;cases h;exact z
  ·cases h
 ·simp only[Sh11Neutral.eventOf,List.getD_cons_zero]at h;cases h
  trivial
 ·simp only[Sh11Neutral.eventOf,List.getD_cons_zero]at h;cases h
  trivial
 ·simp only[Sh11Neutral.eventOf,List.getD_cons_zero]at h;cases h
  trivial
noncomputable abbrev cI(k:Nat)(ns:List Nat):List (List Int):=[(k::ns).map fun(n:Nat)=>(n:Int)]
theorem zS(s:Sh11Neutral.S)(k:Nat)(ns:List Nat):Sh11Neutral.step s (cI k ns)=(match k with
 |0=>if(⟨ns.getD 0 0,ns.getD 1 0,ns.getD 2 0,ns.getD 3 0,ns.getD 4 0⟩:Sh11.Rules).ok=true then(Sh11.fresh ⟨ns.getD 0 0,ns.getD 1 0,ns.getD 2 0,ns.getD 3 0,ns.getD 4 0⟩,[0])else(s,[-1])
 |10=>if s.log.isEmpty=true then(s,[-2])else(s.undone,[0])
 |11=>(s,Sh11Neutral.told (s.now.told .now))
 |12=>(s,Sh11Neutral.told (s.now.told (.total (ns.getD 0 0))))
 |13=>(s,Sh11Neutral.told (s.now.told (.batter (ns.getD 0 0) (ns.getD 1 0))))
 |14=>(s,Sh11Neutral.told (s.now.told (.bowling (ns.getD 0 0) (ns.getD 1 0))))
 |15=>(s,Sh11Neutral.told (s.now.told (.fall (ns.getD 0 0) (ns.getD 1 0))))
 |16=>(s,Sh11Neutral.told (s.now.told (.stand (ns.getD 0 0) (ns.getD 1 0))))
 |17=>(s,Sh11Neutral.told (s.now.told (.over (ns.getD 0 0) (ns.getD 1 0) (ns.getD 2 0))))
 |18=>(s,Sh11Neutral.told (s.now.told .result))
 |_=>match Sh11Neutral.eventOf (k::ns)with
  |none=>(s,[-1])
  |some e=>match s.step e with
   |none=>(s,[-2])
   |some t=>(t,[0])):=by
 unfold Sh11Neutral.step;simp only[cI,List.headD_cons,MU,List.getD_cons_zero,List.getD_cons_succ];rfl
noncomputable def m6(r:Sh11.Rules)(lg:List Sh11.Event)(g:aq.ab):Sh11Neutral.S:=⟨r,lg,g.abs⟩
theorem Lq{r:Sh11.Rules}{lg:List Sh11.Event}{gs:List aq.ab}{g:aq.ab}(fD:r.ok=true)(hh:N.wt r lg gs g)(hl:lg.length≤30000){k:Nat}{ns:List Nat}(h1:1≤k)(h9:k≤9) :
  (vE g (Sh11Neutral.eventOf (k::ns))≠0→Sh11Neutral.step (m6 r lg g) (cI k ns)=(m6 r lg g,[vE g (Sh11Neutral.eventOf (k::ns))]))∧
  (∀ e g',Sh11Neutral.eventOf (k::ns)=some e→g.act e=some g'→Sh11Neutral.step (m6 r lg g) (cI k ns)=(m6 r (lg++[e]) g',[0])):=by
 have base:Sh11Neutral.step (m6 r lg g) (cI k ns)=(match Sh11Neutral.eventOf (k::ns)with
  |none=>(m6 r lg g,[-1])
  |some e=>match(m6 r lg g).step e with
   |none=>(m6 r lg g,[-2])
   |some t=>(t,[0])):=by
  rw[zS];have hk:k=1∨k=2∨k=3∨k=4∨k=5∨k=6∨k=7∨k=8∨k=9:=by omega
  rcases hk with rfl|rfl|rfl|rfl|rfl|rfl|rfl|rfl|rfl<;>rfl
 have hst:∀ e,aq.GY e→(m6 r lg g).step e=(g.act e).map fun g'=>m6 r (lg++[e]) g':=fun e he=>by
  unfold Sh11.St.step;rw[if_neg (show¬Sh11.MOST≤(m6 r lg g).log.length by show¬Sh11.MOST≤lg.length;unfold Sh11.MOST;omega)];show(g.abs.did e).map _=_;rw[(aq.ab.L0 (hh.sound fD).1.ok he).1,Option.map_map];rfl
 constructor
 ·intro hv;rw[base]
  cases q:Sh11Neutral.eventOf (k::ns)with
  |none=>rfl
  |some e=>
   rw[q]at hv;simp only[];rw[hst e (Ql h1 h9 q)]
   cases z:g.act e with
   |none=>rw[lj z];rfl
   |some g'=>rw[rF z]at hv;exact absurd rfl hv
 ·intro e g' he ha;rw[base,he];simp only[];rw[hst e (Ql h1 h9 he),ha];rfl
theorem MI{r:Sh11.Rules}{lg:List Sh11.Event}{g:aq.ab}{n:Nat}(sd:N.Sound n r g){k:Nat}(hk:k≤7)(ns:List Nat):Sh11Neutral.step (m6 r lg g) (cI (k+11) ns)=(m6 r lg g,readM g k ns):=by
 rw[zS];have hk:k=0∨k=1∨k=2∨k=3∨k=4∨k=5∨k=6∨k=7:=by omega
 rcases hk with rfl|rfl|rfl|rfl|rfl|rfl|rfl|rfl
 ·exact congrArg (Prod.mk _) (N.QJ sd)
 ·exact congrArg (Prod.mk _) (N.Dy sd _)
 ·exact congrArg (Prod.mk _) (N.Mn _ _)
 ·exact congrArg (Prod.mk _) (N.KQ _ _)
 ·exact congrArg (Prod.mk _) (N.OU _ _)
 ·exact congrArg (Prod.mk _) (N.N1 _ _)
 ·exact congrArg (Prod.mk _) (N.Dp _ _ _)
 ·exact congrArg (Prod.mk _) (N.Ma sd)
theorem Me{r:Sh11.Rules}{lg:List Sh11.Event}{gs:List aq.ab}{g:aq.ab}(fD:r.ok=true)(hh:N.wt r lg gs g)(ns:List Nat) :
  (gs=[]→Sh11Neutral.step (m6 r lg g) (cI 10 ns)=(m6 r lg g,[-2]))∧
  (∀ gs0 g0,gs=gs0++[g0]→∃ l0,N.wt r l0 gs0 g0∧l0.length≤lg.length∧Sh11Neutral.step (m6 r lg g) (cI 10 ns)=(m6 r l0 g0,[0])):=by
 obtain⟨sd,cm,hgl⟩:=hh.sound fD;constructor
 ·intro e;subst e;have:lg=[]:=List.length_eq_zero_iff.mp hgl.symm;subst this;rw[zS];rfl
 ·intro gs0 g0 e;subst e;obtain⟨l0,e0,el⟩:∃ l0 e0,lg=l0++[e0]:=by
   rcases aq.a8 lg with q|q
   ·rw[q]at hgl;simp at hgl
   ·exact q
  subst el;obtain⟨hb,he,ha⟩:=hh.back;refine⟨l0,hb,by simp,?_⟩;rw[zS];have hne:((m6 r (l0++[e0]) g).log.isEmpty)=false:=by show(l0++[e0]).isEmpty=false;simp
  show(if(m6 r (l0++[e0]) g).log.isEmpty=true then _ else _)=_;rw[hne,if_neg (by decide)];obtain⟨m,hm,hd,hu⟩:=aq.L6 (s:=m6 r (l0++[e0]) g) cm rfl;have hm2:Sh11.Comes r l0 m:=hm;have e1:=aq.wU hm2;have e2:=aq.wU (hb.sound fD).2.1;rw[hu];have:m=g0.abs:=e1.symm.trans e2;rw[this];rfl
theorem yS(s:Sh11Neutral.S)(n0 n1 n2 n3 n4:Nat):Sh11Neutral.step s (cI 0 [n0,n1,n2,n3,n4])=if(⟨n0,n1,n2,n3,n4⟩:Sh11.Rules).ok=true then(m6 ⟨n0,n1,n2,n3,n4⟩ [] (N.begun ⟨n0,n1,n2,n3,n4⟩),[0])else(s,[-1]):=by
 rw[zS];rfl
theorem ND{g:aq.ab}{n:Nat}{r:Sh11.Rules}(sd:N.Sound n r g){k:Nat}(hk:k≤7)(ns:List Nat):(readM g k ns).length≤7*n+11:=by
 have rl:∀{α:Type}(f:aq.ak→List α)(m:α→List Int)(c:Nat)(_:∀ x,(m x).length=c)(k p:Nat),c≤8→(N.zR f m g k p).length≤9:=fun f m c hm k p hc=>by
  unfold N.zR;split
  ·decide
  ·split
   ·decide
   ·rw[List.length_cons,hm];omega
 have hk:k=0∨k=1∨k=2∨k=3∨k=4∨k=5∨k=6∨k=7:=by omega
 rcases hk with rfl|rfl|rfl|rfl|rfl|rfl|rfl|rfl
 ·show(N.Kh g).length≤_;unfold N.Kh
  split<;>simp<;>omega
 ·show(N.wm g _).length≤_;unfold N.wm
  split<;>simp
 ·have:=rl (·.bats) N.MO 8 (fun _=>rfl) (ns.getD 0 0) (ns.getD 1 0) (by decide);show(N.o6 g _ _).length≤_;unfold N.o6;omega
 ·have:=rl (fun i=>i.aI.map (·.d9)) N.MJ 6 (fun _=>rfl) (ns.getD 0 0) (ns.getD 1 0) (by decide);show(N.lN g _ _).length≤_;unfold N.lN;omega
 ·have:=rl (·.falls) N.zd 3 (fun _=>rfl) (ns.getD 0 0) (ns.getD 1 0) (by decide);show(N.Az g _ _).length≤_;unfold N.Az;omega
 ·have:=rl (·.stands) N.xH 4 (fun _=>rfl) (ns.getD 0 0) (ns.getD 1 0) (by decide);show(N.uv g _ _).length≤_;unfold N.uv;omega
 ·show(N.BW g _ _ _).length≤_;unfold N.BW
  cases q:g.played[ns.getD 0 0]? with
  |none=>simp
  |some i=>
   simp only[]
   cases q2:(N.proj i).overs[ns.getD 1 0]? with
   |none=>simp
   |some o=>
    simp only[];have h1:=text_len sd (List.mem_of_getElem? q) q2;have h2:=yX (N.gT (N.proj i) (ns.getD 1 0) o);rw[List.length_cons];split
    ·simp
    ·unfold N.codes;rw[List.length_map];omega
 ·show(N.qW g).length≤_;unfold N.qW N.qw;rw[List.length_cons];have:∀ l:List Int,l.length≤2→l.length+1≤7*n+11:=fun l h=>by omega
  apply this;split
  ·decide
  ·split
   ·decide
   ·split
    ·decide
    ·split
     ·decide
     ·split<;>simp
def fO(a:Ad)(H:Hp)(t:Tag)(p:Addr)(r:Sh11.Rules)(lg:List Sh11.Event)(g:aq.ab):Prop:=∃ B gs,B.p=p∧nZ a H t B gs g∧N.wt r lg gs g∧r.ok=true
theorem fO.same{H H':Hp}{t:Tag}{p:Addr}{r:Sh11.Rules}{lg:List Sh11.Event}{g:aq.ab}(h:fO a H t p r lg g)(s:a6 H H'):fO a H' t p r lg g:=by
 obtain⟨B,gs,e,I,hh,fD⟩:=h;exact⟨B,gs,e,I.same s,hh,fD⟩
def PZ(a:Ad)(H:Hp)(t:Tag)(p:Addr):Prop:=∃ dx q,H p=some (.ins (a.c 8) dx (fj .non q))∧t p=2∧H q=some (.lst [])∧t q=3
theorem Step.back{R:Nat→Prop}{H H':Hp}{t t':Tag}(s:Step R H t H' t'){b:Addr}(h:H' b=none):H b=none:=by
 cases q:H b with
 |none=>rfl
 |some o=>exact absurd h (s.live b (by rw[q];simp))
end
end Sb
namespace Sb
open PySem L2
section
variable{P:Program}{w:World}{K:PySem.W.Frag}{mg:Str→Option Value}{base:Heap}{a:Ad}
noncomputable def N0(k:Nat):Nat:=[5,2,1,8,1,2,1,0,0,0,0,0,1,2,2,2,2,3,0].getD k 0
theorem Ra{k:Nat}(h:k≤9):N0 k=RS k:=(by decide:∀ k,k≤9→N0 k=RS k) k h
theorem QY{k:Nat}(h:k≤7):N0 (k+11)=R7 k:=(by decide:∀ k,k≤7→N0 (k+11)=R7 k) k h
theorem xJ{H H':Hp}{t t':Tag}(st:Step bR H t H' t')(fr:Fr H t){D:Addr}(hD:H' D=none)(o:HO):Step bR H t (upd H' D o) t'∧H D=none∧t' D=0:=⟨st.trans (Step.same (aA hD)),st.back hD,st.fr fr D hD⟩
theorem Sl{ns:List Nat}(h:ns.length=5):∃ a b c d e,ns=[a,b,c,d,e]:=by
 match ns,h with
 |[a,b,c,d,e],_=>exact⟨a,b,c,d,e,rfl⟩
inductive HZ(a:Ad)(vs:List V)(H:Hp)(Q:VK):Prop
 |mk(t:Tag)(p l:Addr)(S:Sh11Neutral.S)(ns:List Nat)(k m:Nat)(_:vs=[.ref p,.int k,.ref l])(_:Fr H t)(_:H l=some (.lst (ib ns)))(_:t l=0)(_:k≤18)(_:ns.length=N0 k)(_:m≤30000)(_:((PZ a H t p∧k=0∧(Sh11Neutral.step S (cI 0 ns)).2=[0])∨∃ r lg g,S=m6 r lg g∧lg.length≤m∧fO a H t p r lg g))(_:∀ H' t' D r' lg' g',Step bR H t H' t'→H' D=some (.lst (iB (Sh11Neutral.step S (cI k ns)).2))→H D=none→t' D=0→(Sh11Neutral.step S (cI k ns)).1=m6 r' lg' g'→fO a H' t' p r' lg' g'→((Sh11Neutral.step S (cI k ns)).2.length=1∧lg'.length≤m+1∨(Sh11Neutral.step S (cI k ns)).2.length≤7*m+11∧lg'.length≤m)→Q (.ref D) H')
def FX(a:Ad):Sp:=fun vs H Q _=>HZ a vs H Q
theorem FO:ao ["book","number","numbers"] ["book","number","numbers"] (ai uk):=⟨rfl,rfl,rfl,by decide +kernel,rfl,by decide +kernel,by decide +kernel⟩
theorem FD(T:Txt K mg a):aZ P w K mg base cG 11 (a.f 127) (a.d 127) ["book","number","numbers"] (FX a):=by
 refine T.fn.uA.F.ok FO (fun vs H Q E h=>?_) (fun cdv A outer s H vs Q E hr h=>?_)
 ·obtain⟨t,p,l,S,ns,k,m,rfl,_⟩:=h;rfl
 ·obtain⟨t,p,l,S,ns,k,m,rfl,fr,hl,tl,hk,hn,hm,hb,k0⟩:=h;refine⟨_,(ae (bN (aT (bx (pv 1) (aN rfl T.fn.Hs))) (ag (ay (bO (aK (bC (NG T) (hr.mono (by decide)) rfl T.fn.Dt T.fn.Iy.F.kp T.fn.Iy.b au (aK (pv 0) (aK (pv 2) ah))) ah)))) aY) (ae (bN (aT (yo (pv 1) (aN rfl T.fn.HD))) (ag (ay (bO (aK (bC (OG T) (hr.mono (by decide)) rfl T.fn.HM T.fn.Lo.F.kp T.fn.Lo.b au (aK (pv 0) (aK (pv 1) (aK (pv 2) ah)))) ah)))) aY) (ae (bN (aT (bx (pv 1) (aN rfl T.fn.HD))) (ag (ay (bO (aK (bC (Pg T) (hr.mono (by decide)) rfl T.fn.G6 T.fn.Le.F.kp T.fn.Le.b au (aK (pv 0) ah)) ah)))) aY) (ag (ay (bC (Pc T) (hr.mono (by decide)) rfl T.fn.HP T.fn.Ln.F.kp T.fn.Ln.b au (aK (af (pv 0) rfl) (aK (bM sg (pv 1) (aN rfl T.fn.uF)) (aK (pv 2) ah))))))))),?_⟩;have hk4:k=0∨(1≤k∧k≤9)∨k=10∨11≤k:=by omega
  rcases hk4 with rfl|⟨h1,h9⟩|rfl|h11
  ·refine⟨_,rfl,_,_,rfl,rfl,_,rfl,bH rfl ?_⟩;obtain⟨n0,n1,n2,n3,n4,rfl⟩:=Sl hn;have done:∀(dx q:Addr)(gv:V)(xs:List V),H p=some (.ins (a.c 8) dx (fj gv q))→t p=2→H q=some (.lst xs)→t q=3→((⟨n0,n1,n2,n3,n4⟩:Sh11.Rules).ok=false→∃ r lg g,S=m6 r lg g∧lg.length≤m∧fO a H t p r lg g)→Js a [V.ref p,V.ref l] H (fun v H1=>0+1≤sizeLine∧∀ D,H1 D=none→Q (.ref D) (upd H1 D (.lst [v]))) E0:=fun dx q gv xs hp tp hq tq ho=>by
    refine⟨t,p,dx,q,l,gv,xs,n0,n1,n2,n3,n4,rfl,hp,tp,hq,tq,fr,hl,fun hno=>⟨by decide,fun D hD=>?_⟩,fun hyes H1 t1 B1 e1 st1 I1=>⟨by decide,fun D hD=>?_⟩⟩
    ·obtain⟨r,lg,g,e,hl2,hB⟩:=ho hno;subst e;have es:=yS (m6 r lg g) n0 n1 n2 n3 n4;rw[if_neg (by rw[hno];decide)]at es;obtain⟨z1,z2,z3⟩:=xJ (Step.refl (R:=bR) (H:=H) (t:=t)) fr hD (.lst [.int (-1)]);refine k0 _ t D r lg g z1 ?_ z2 z3 ?_ (hB.same (aA hD)) ?_
     ·rw[es];exact aa
     ·rw[es]
     ·rw[es];exact .inl ⟨rfl,by omega⟩
    ·have es:=yS S n0 n1 n2 n3 n4;rw[if_pos hyes]at es;obtain⟨z1,z2,z3⟩:=xJ st1 fr hD (.lst [.int 0]);refine k0 _ t1 D ⟨n0,n1,n2,n3,n4⟩ [] (N.begun ⟨n0,n1,n2,n3,n4⟩) z1 ?_ z2 z3 ?_ (fO.same ⟨B1,[],e1,I1,N.wt.nil,hyes⟩ (aA hD)) ?_
     ·rw[es];exact aa
     ·rw[es]
     ·rw[es];exact .inl ⟨rfl,Nat.zero_le _⟩
   refine⟨_,rfl,_,rfl,?_⟩;rcases hb with⟨⟨dx,q,hp,tp,hq,tq⟩,_,h0⟩|hB
   ·refine done dx q _ _ hp tp hq tq fun hno=>?_
    have es:=yS S n0 n1 n2 n3 n4;rw[if_neg (by rw[hno];decide)]at es;rw[es]at h0;exact absurd h0 (by show¬([-1]:List Int)=[0];decide)
   ·obtain⟨r,lg,g,e,hl2,B,gs,eB,I,hh,fD⟩:=id hB;subst eB;exact done B.dx B.kept _ _ I.ob I.nG I.kept I.tk fun _=>hB
  ·have hkI:¬((k:Int)=0):=by omega
   have hkL:(k:Int)<10:=by omega
   refine⟨_,rfl,_,_,rfl,rfl,_,rfl,cw (decide_eq_false hkI) ⟨_,rfl,_,_,rfl,rfl,_,rfl,bH (decide_eq_true hkL) ⟨_,rfl,_,rfl,_,rfl,?_⟩⟩⟩;rcases hb with⟨_,z,_⟩|⟨r,lg,g,e,hl2,B,gs,eB,I,hh,fD⟩
   ·omega
   subst eB e;have se:=Lq (ns:=ns) fD hh (by omega) h1 h9;refine⟨t,B,gs,g,r,lg,l,ns,k,rfl,I,fr,hh,fD,by omega,hl,tl,h1,h9,hn.trans (Ra h9),fun H1 s1 hv=>⟨(by show 1≤sizeLine;decide),fun D hD=>?_⟩,fun e g' H1 t1 B1 hev ha e1 st1 I1=>⟨(by show 1≤sizeLine;decide),fun D hD=>?_⟩⟩
   ·obtain⟨z1,z2,z3⟩:=xJ (Step.same (R:=bR) (t:=t) s1) fr hD (.lst [.int (vE g (Sh11Neutral.eventOf (k::ns)))]);have es:=se.1 hv;refine k0 _ t D r lg g z1 ?_ z2 z3 ?_ (fO.same (fO.same ⟨B,gs,rfl,I,hh,fD⟩ s1) (aA hD)) ?_
    ·rw[es];exact aa
    ·rw[es]
    ·rw[es];exact .inl ⟨rfl,by omega⟩
   ·obtain⟨z1,z2,z3⟩:=xJ st1 fr hD (.lst [.int 0]);have es:=se.2 e g' hev ha;refine k0 _ t1 D r (lg++[e]) g' z1 ?_ z2 z3 ?_ (fO.same ⟨B1,gs++[g],e1,I1,N.wt.next _ _ _ _ _ hh (Ql h1 h9 hev) ha,fD⟩ (aA hD)) ?_
    ·rw[es];exact aa
    ·rw[es]
    ·rw[es];exact .inl ⟨rfl,by rw[List.length_append,List.length_singleton];omega⟩
  ·refine⟨_,rfl,_,_,rfl,rfl,_,rfl,cw rfl ⟨_,rfl,_,_,rfl,rfl,_,rfl,cw rfl ⟨_,rfl,_,_,rfl,rfl,_,rfl,bH rfl ⟨_,rfl,?_⟩⟩⟩⟩;rcases hb with⟨_,z,_⟩|⟨r,lg,g,e,hl2,B,gs,eB,I,hh,fD⟩
   ·omega
   subst eB e;have se:=Me fD hh ns;refine⟨t,B,gs,g,r,lg,rfl,I,fr,hh,fD,fun hg=>⟨(by show 1≤sizeLine;decide),fun D hD=>?_⟩,fun gs0 g0 H1 t1 B1 eg e1 st1 I1=>⟨(by show 1≤sizeLine;decide),fun D hD=>?_⟩⟩
   ·obtain⟨z1,z2,z3⟩:=xJ (Step.refl (R:=bR) (H:=H) (t:=t)) fr hD (.lst [.int (-2)]);have es:=se.1 hg;refine k0 _ t D r lg g z1 ?_ z2 z3 ?_ (fO.same ⟨B,gs,rfl,I,hh,fD⟩ (aA hD)) ?_
    ·rw[es];exact aa
    ·rw[es]
    ·rw[es];exact .inl ⟨rfl,by omega⟩
   ·obtain⟨z1,z2,z3⟩:=xJ st1 fr hD (.lst [.int 0]);obtain⟨l0,hh0,hl0,es⟩:=se.2 gs0 g0 eg;refine k0 _ t1 D r l0 g0 z1 ?_ z2 z3 ?_ (fO.same ⟨B1,gs0,e1,I1,hh0,fD⟩ (aA hD)) ?_
    ·rw[es];exact aa
    ·rw[es]
    ·rw[es];exact .inl ⟨rfl,by omega⟩
  ·obtain⟨j,rfl⟩:∃ j,k=j+11:=⟨k-11,by omega⟩
   have hkI:¬(((j+11:Nat):Int)=0):=by omega
   have hkL:¬(((j+11:Nat):Int)<10):=by omega
   have hkE:¬(((j+11:Nat):Int)=10):=by omega
   refine⟨_,rfl,_,_,rfl,rfl,_,rfl,cw (decide_eq_false hkI) ⟨_,rfl,_,_,rfl,rfl,_,rfl,cw (decide_eq_false hkL) ⟨_,rfl,_,_,rfl,rfl,_,rfl,cw (decide_eq_false hkE) ?_⟩⟩⟩;rcases hb with⟨_,z,_⟩|⟨r,lg,g,e,hl2,B,gs,eB,I,hh,fD⟩
   ·omega
   subst eB e;obtain⟨sd,cm,hgl⟩:=hh.sound fD;have es:=MI (lg:=lg) sd (show j≤7 by omega) ns;have ek:(((j+11:Nat):Int)-11)=(j:Int):=by omega
   refine⟨_,rfl,_,_,_,_,_,rfl,I.ob,T.ey.cl,T.ey.i3,cZ,_,rfl,_,_,rfl,rfl,_,rfl,t,B.G,g,l,ns,lg.length,r,j,?_,I.Ig,sd,by omega,hl,by omega,hn.trans (QY (by omega)),fun H1 D s1 hD hH=>?_⟩
   ·show[V.ref B.G.p,V.int (((j+11:Nat):Int)-11),V.ref l]=_;rw[ek]
   ·refine k0 H1 t D r lg g (Step.same s1) ?_ hD (fr D hD) ?_ (fO.same ⟨B,gs,rfl,I,hh,fD⟩ s1) ?_
    ·rw[es];exact hH
    ·rw[es]
    ·rw[es];have:=ND sd (show j≤7 by omega) ns;exact .inr ⟨by show(readM g j ns).length≤_;omega,by omega⟩
end
end Sb
namespace Sb
open PySem L2
section
variable{P:Program}{w:World}{K:PySem.W.Frag}{mg:Str→Option Value}{base:Heap}{a:Ad}
theorem Ko{p:Int}{r:List Int}{n:Nat}(hn:n≤r.length)(ha:Sh11Neutral.askedOne [p::r.take n]=true) :
  ∃(k:Nat)(ns:List Nat),k≤18∧p=(k:Int)∧n=N0 k∧ns.length=n∧r.take n=ns.map (fun(x:Nat)=>(x:Int)):=by
 have ha':(NeutralIO.within p 0 18&&((r.take n).length==Sh11Neutral.counts.getD p.toNat 0&&(r.take n).all fun z=>if p=3 then NeutralIO.within z 0 255 else Sh11Neutral.word z))=true:=ha;rw[Bool.and_eq_true,Bool.and_eq_true]at ha';obtain⟨h1,h2,h3⟩:=ha';unfold NeutralIO.within at h1;rw[Bool.and_eq_true]at h1;have p0:=of_decide_eq_true h1.1;have p18:=of_decide_eq_true h1.2;have hl:(r.take n).length=n:=by rw[List.length_take];omega
 rw[hl]at h2;refine⟨p.toNat,(r.take n).map Int.toNat,by omega,by omega,eq_of_beq h2,by rw[List.length_map,hl],?_⟩;rw[List.map_map]
 conv=>lhs;rw[←List.map_id (r.take n)]
 apply List.map_congr_left;intro z hz;have:=List.all_eq_true.mp h3 z hz;have z0:0≤z:=by
  split at this
  ·unfold NeutralIO.within at this;rw[Bool.and_eq_true]at this;exact of_decide_eq_true this.1
  ·unfold Sh11Neutral.word NeutralIO.within at this;rw[Bool.and_eq_true]at this;exact of_decide_eq_true this.1
 exact (Int.toNat_of_nonneg z0).symm
theorem Nt(x y:Nat):4*(x*y)≤(x+y)*(x+y):=by
 have key:∀ u d:Nat,4*(u*(u+d))≤(u+(u+d))*(u+(u+d)):=fun u d=>by
  have e1:4*(u*(u+d))=4*(u*u)+4*(u*d):=by rw[Nat.mul_add,Nat.mul_add]
  have e2:(u+(u+d))*(u+(u+d))=4*(u*u)+4*(u*d)+d*d:=by
   have:d*u=u*d:=Nat.mul_comm d u;simp only[Nat.add_mul,Nat.mul_add];omega
  omega
 rcases Nat.le_total x y with h|h
 ·obtain⟨d,rfl⟩:=Nat.le.dest h;exact key x d
 ·obtain⟨d,rfl⟩:=Nat.le.dest h;rw[Nat.mul_comm (y+d) y,Nat.add_comm (y+d) y];exact key y d
theorem OQ{E q:Nat}(h:E+q≤3000):2*E+q*(7*E+12)≤16000000:=by
 have h1:=Nt q E;have h2:(q+E)*(q+E)≤3000*3000:=Nat.mul_le_mul (by omega) (by omega);have e:q*(7*E+12)=7*(q*E)+12*q:=by
  rw[Nat.mul_add,Nat.mul_comm q 12,←Nat.mul_assoc,Nat.mul_comm q 7,Nat.mul_assoc]
 omega
theorem fO.RE{H H':Hp}{t t':Tag}{p:Addr}{r:Sh11.Rules}{lg:List Sh11.Event}{g:aq.ab}(h:fO a H t p r lg g)(s:Step (fun m=>m=1) H t H' t'):fO a H' t' p r lg g:=by
 obtain⟨B,gs,e,I,hh,fD⟩:=h;exact⟨B,gs,e,I.step s (by decide) (fun m hm e=>by unfold bR at hm;omega),hh,fD⟩
noncomputable def Np:List V:=[.int 5,.int 2,.int 1,.int 8,.int 1,.int 2,.int 1,.int 0,.int 0,.int 0,.int 0,.int 0,.int 1,.int 2,.int 2,.int 2,.int 2,.int 3,.int 0]
theorem M1{k:Nat}(h:k≤18):Np[k]?=some (.int (N0 k:Nat)):=(by decide:∀ k,k≤18→Np[k]?=some (.int (N0 k:Nat))) k h
def Ry(a:Ad)(H:Hp)(l:Addr)(cl:List Int)(m:Nat)(σ:St)(H2:Hp):Prop:=
 ∃(pl:Nat)(p f:Addr)(v4 v5 v6:Option V)(S:Sh11Neutral.S)(out:List Int)(t:Tag)(E q:Nat),
  m+pl=cl.length∧σ=[some (.ref l),some (.ref p),some (.ref f),some (.int pl),v4,v5,v6]∧a6 H H2∧H f=none∧H2 f=some (.lst (iB out))∧t f=1∧(∀ b,H b≠none→t b=1)∧Fr H2 t∧
  Fl.Good (cl.drop pl)∧PySh11.answers cl=out++Fl.QC S (cl.drop pl)∧out.length≤2*E+q*(7*E+12)∧E+q+Fl.many (cl.drop pl)≤3000∧
  ((pl=0∧PZ a H2 t p∧(∃ r,cl=0::r∧5≤r.length∧(Sh11Neutral.step S [0::r.take 5]).2=[0]))∨∃ r lg g,S=m6 r lg g∧lg.length≤E∧fO a H2 t p r lg g)
theorem KN{cl r:List Int}{c:Int}{pl n:Nat}{ns:List Nat}(e:cl.drop pl=c::r)(hns:r.take n=ns.map (fun(x:Nat)=>(x:Int))):((iB cl).take (pl+1+n)).drop (pl+1)=ib ns:=by
 have e1:cl.drop (pl+1)=r:=by rw[←List.drop_drop,e];rfl
 unfold iB ib;rw[←List.map_take,←List.map_drop,←List.take_drop,e1,hns,List.map_map];rfl
def EW(K:PySem.W.Frag)(a:Ad):Sp:=fun vs H Q _=>∃(l:Addr)(cl:List Int),vs=[.ref l]∧bD K H l (iB cl)∧PySh11.answers_asked cl=true∧∀ H' D,a6 H H'→H D=none→H' D=some (.lst (iB (PySh11.answers cl)))→Q (.ref D) H'
theorem i5:ao ["calls","book","found","place","number","behind","answer"] ["calls"] (ai BI):=⟨rfl,rfl,rfl,by decide +kernel,rfl,by decide +kernel,by decide +kernel⟩
theorem KY(T:Txt K mg a):aZ P w K mg base cG 12 (a.f 126) (a.d 126) ["calls"] (EW K a):=by
 refine T.fn.GB.F.ok i5 (fun vs H Q E h=>?_) (fun cdv A outer s H vs Q E hr h=>?_)
 ·obtain⟨l,cl,rfl,_⟩:=h;rfl
 ·obtain⟨l,cl,rfl,hl,hask,k0⟩:=h;refine⟨_,(ae (aX (i:=1) i5.nd rfl (Or.inl rfl) (Nn T.ey.vg (Hg T) (hr.mono (by decide)) rfl T.ey.AF T.ey.BY.b .nil au )) (ae (aX (i:=2) i5.nd rfl (Or.inl rfl) (bO ah)) (ae (aX (i:=3) i5.nd rfl (Or.inl rfl) aj) (ae (IX PassesOwn.never (aT (yo (pv 3) (ba aP rfl T.fn.c8 PySem.boot_len (aK (pv 0) ah)))) (ae (aX (i:=4) i5.nd rfl (Or.inl rfl) (aM aD (pv 0) (pv 3) (fun _ _=>rfl))) (ae (aX (i:=5) i5.nd rfl (Or.inl rfl) (bM cN (bM cN (pv 3) aj) (aM dU (Ge rfl T.fn.G0) (pv 4) (fun _ _=>rfl)))) (ae (aX (i:=6) i5.nd rfl (Or.inl rfl) (bC (FD T) (hr.mono (by decide)) rfl T.fn.ph T.fn.uA.F.kp T.fn.uA.b au (aK (pv 1) (aK (pv 4) (aK (wB Aj (pv 0) (ua (bM cN (pv 3) aj)) (ua (pv 5))) ah))))) (ae (br (Am PySem.F.plainAttrs_list PySem.F.slot_list_append PySem.F.type_list_append mI (pv 2) (aK (ba aP rfl T.fn.c8 PySem.boot_len (aK (pv 6) ah)) ah))) (ae (br (Am PySem.F.plainAttrs_list PySem.F.slot_list_extend PySem.F.type_list_extend Mz (pv 2) (aK (pv 6) ah))) (ag (aX (i:=3) i5.nd rfl (Or.inl rfl) (pv 5))))))))) (ag (ay (pv 2))))))),?_⟩;refine fun x dx hx hdx hne=>⟨x,dx,rfl,aa,fun q H1 hq hx1 hq1 kp1 fr1=>⟨rfl,?_⟩⟩
  have sm1:a6 H H1:=fun b u h=>by
   have nb:b≠x:=aQ h hx;refine kp1 b u ?_ nb;rw[ax nb,ax (aQ h hdx)];exact h
  refine⟨(by show 0≤sizeLine;decide),fun f hf=>?_⟩;have nxf:x≠f:=aQ hx1 hf;have nqf:q≠f:=aQ hq1 hf;have hqH:H q=none:=by
   have nqx:q≠x:=fun e=>by rw[e,aa]at hq;cases hq
   rw[ax nqx]at hq;have nqd:q≠dx:=fun e=>by rw[e,aa]at hq;cases hq
   rw[ax nqd]at hq;exact hq
  have nqx:q≠x:=fun e=>by rw[e,aa]at hq;cases hq
  have hfH:H f=none:=sm1.free hf;obtain⟨gd,ed⟩:=Fl.Kr hask;obtain⟨cs,ecs,hcs⟩:=Fl.Kc hask;refine⟨Ry a H l cl,⟨cl.length,0,x,f,_,_,_,Sh11Neutral.start,[],(fun b=>if b=x then 2 else if b=q then 3 else if b=f then 1 else if H b=none then 0 else 1),0,0,rfl,rfl,sm1.trans (aA hf),hfH,aa,?_,fun b hb=>?_,fun b hb=>?_,gd,ed,Nat.zero_le _,?_,.inl ⟨rfl,⟨dx,q,?_,?_,?_,?_⟩,Fl.JC hask⟩⟩,?_⟩
  ·show(if f=x then 2 else if f=q then 3 else if f=f then 1 else _)=1;rw[if_neg nxf.symm,if_neg nqf.symm,if_pos rfl]
  ·show(if b=x then 2 else if b=q then 3 else if b=f then 1 else if H b=none then 0 else 1)=1;rw[if_neg (fun e=>hb (by rw[e];exact hx)),if_neg (fun e=>hb (by rw[e];exact hqH)),if_neg (fun e=>hb (by rw[e];exact hfH)),if_neg hb]
  ·show(if b=x then 2 else if b=q then 3 else if b=f then 1 else if H b=none then 0 else 1)=0;have nbf:b≠f:=fun e=>by rw[e,aa]at hb;cases hb
   rw[ax nbf]at hb;rw[if_neg (fun e=>by rw[e,hx1]at hb;cases hb),if_neg (fun e=>by rw[e,hq1]at hb;cases hb),if_neg nbf,if_pos (sm1.free hb)]
  ·show 0+0+Fl.many cl≤3000;unfold Fl.many;rw[ecs]
   simpa using hcs
  ·exact (ax nxf).trans hx1
  ·exact if_pos rfl
  ·exact (ax nqf).trans hq1
  ·show(if q=x then 2 else if q=q then 3 else _)=3;rw[if_neg nqx,if_pos rfl]
  rintro m σ H2 ⟨pl,p,f,v4,v5,v6,S,out,t,E',qn,hm,rfl,sm,hfn,hf2,tf,tH,fr,gd2,ed2,hout,hmany,hb⟩
  have hsq:=sm.seq hl;refine⟨_,rfl,_,rfl,_,_,rfl,.inl hsq,_,_,rfl,rfl,_,rfl,?_⟩;refine eM (fun h=>?_) (fun h=>?_)
  ·have hlt:pl<cl.length:=by
    have:=iA h;rw[List.length_map]at this;omega
   obtain⟨c,r,ecl⟩:∃ c r,cl.drop pl=c::r:=by
    cases z:cl.drop pl with
    |nil=>
     have:=List.drop_eq_nil_iff.mp z;omega
    |cons c r=>exact⟨c,r,rfl⟩
   rw[ecl]at gd2 ed2 hmany;obtain⟨n,hs,hn,ha,gd3,hdue⟩:=gd2.cons;obtain⟨k,ns,hk,rfl,hnk,hns,hnums⟩:=Ko hn ha;have hmany2:=Fl.MK gd2 hs;have hcI:[((k:Nat):Int)::r.take n]=cI k ns:=by rw[hnums];rfl
   have edue:=hdue S;rw[hcI]at edue;have ecr:cl.drop (pl+1+n)=r.drop n:=by
    have e1:cl.drop (pl+1)=r:=by rw[←List.drop_drop,ecl];rfl
    rw[←List.drop_drop,e1]
   have hlen:pl+1+n≤cl.length:=by
    have:=congrArg List.length ecl;rw[List.length_drop,List.length_cons]at this;omega
   have hget:(iB cl)[pl]?=some (.int (k:Nat)):=by
    have:cl[pl]?=some ((k:Nat):Int):=by
     have:=congrArg (fun l=>l[0]?) ecl
     simpa [List.getElem?_drop]using this
    show(cl.map V.int)[pl]?=_;rw[List.getElem?_map,this];rfl
   refine⟨_,fun σ' H' hN=>hN,?_⟩;refine⟨_,rfl,_,rfl,_,_,_,_,rfl,rfl,hsq,ar hget,?_⟩;refine⟨_,rfl,_,_,rfl,rfl,_,rfl,_,_,_,_,rfl,rfl,T.fn.Hm _,ar (M1 hk),_,_,rfl,rfl,?_⟩;have eb:((pl:Int)+1+((N0 k:Nat):Int))=((pl+1+n:Nat):Int):=by omega
   have e1:((pl:Int)+1)=((pl+1:Nat):Int):=by omega
   have ecut:DV (iB cl) (some ((pl:Int)+1)) (some ((pl:Int)+1+((N0 k:Nat):Int)))=ib ns:=by
    rw[eb,e1,Hj];exact KN ecl hnums
   refine⟨_,rfl,_,rfl,_,rfl,_,rfl,_,_,rfl,rfl,_,rfl,_,rfl,_,rfl,_,_,rfl,hsq,fun D hD=>?_⟩;rw[ecut];have sD:=aA (o:=.lst (ib ns)) hD;refine⟨t,p,D,S,ns,k,E',rfl,a6.fr sD fr,aa,fr D hD,hk,hns.trans hnk,by omega,?_,fun H3 t3 D3 r' lg' g' st hD3 hDn tD3 eS hB hlg=>?_⟩
   ·rcases hb with⟨hp0,⟨dx2,q2,b1,b2,b3,b4⟩,r2,ec2,h5,hst⟩|⟨r2,lg2,g2,eS2,hl2,hB2⟩
    ·subst hp0;have:(0:Int)::r2=((k:Nat):Int)::r:=by
      rw[←ecl,←ec2];rfl
     injection this with i1 i2
     have hk0:k=0:=by omega
     subst hk0 i2;have hn5:n=5:=hnk;subst hn5;refine .inl ⟨⟨dx2,q2,sD _ _ b1,b2,sD _ _ b3,b4⟩,rfl,?_⟩;rw[←hcI];exact hst
    ·exact .inr ⟨r2,lg2,g2,eS2,hl2,hB2.same sD⟩
   have sm3:a6 H H3:=fun b u h=>st.keep b u (sD _ _ (sm b u h)) (by
    rw[tH b (bU h)];unfold bR
    omega)
   have hf3:H3 f=some (.lst (iB out)):=st.keep f _ (sD _ _ hf2) (by rw[tf];unfold bR;omega);have tf3:t3 f=1:=(st.tag f (bU (sD _ _ hf2))).trans tf;have nDf:D3≠f:=fun e=>by rw[e,tf3]at tD3;cases tD3
   obtain⟨E2,q2,hE,hEq,hlg2⟩:∃ E2 q2,out.length+1+(Sh11Neutral.step S (cI k ns)).2.length≤2*E2+q2*(7*E2+12)∧E2+q2=E'+qn+1∧lg'.length≤E2:=by
    rcases hlg with⟨g1,g2⟩|⟨g1,g2⟩
    ·refine⟨E'+1,qn,?_,by omega,g2⟩;have:qn*(7*E'+12)≤qn*(7*(E'+1)+12):=Nat.mul_le_mul_left _ (by omega);omega
    ·refine⟨E',qn+1,?_,by omega,g2⟩;rw[Nat.add_mul];omega
   have hroom:=OQ (E:=E2) (q:=q2) (by omega);have hline:sizeLine=16777216:=by decide
   have hlo:(iB out).length=out.length:=List.length_map _;have hla:(iB (Sh11Neutral.step S (cI k ns)).2).length=(Sh11Neutral.step S (cI k ns)).2.length:=List.length_map _;refine⟨_,rfl,.inl ⟨rfl,_,bD.of hf3⟩,_,rfl,_,_,rfl,.inl (bD.of hD3),_,_,_,rfl,rfl,hf3,(by rw[hlo,hline];omega),?_⟩;have hD4:(upd H3 f (.lst (iB out++[.int ((iB (Sh11Neutral.step S (cI k ns)).2).length:Nat)]))) D3=some (.lst (iB (Sh11Neutral.step S (cI k ns)).2)):=(ax nDf).trans hD3;refine⟨_,rfl,.inl ⟨rfl,_,bD.of aa⟩,_,rfl,_,_,_,_,rfl,rfl,aa,hD4,(by rw[List.length_append,hlo,hla,hline];show out.length+1+_≤_;omega),?_⟩;rw[jz];refine⟨_,rfl,cl.length-(pl+1+n),by omega,pl+1+n,p,f,some (.int (k:Nat)),some (.int ((pl:Int)+1+((N0 k:Nat):Int))),some (.ref D3),(Sh11Neutral.step S (cI k ns)).1,out++(((Sh11Neutral.step S (cI k ns)).2.length:Nat):Int)::(Sh11Neutral.step S (cI k ns)).2,t3,E2,q2,by omega,?_,?_,hfn,?_,tf3,fun b hb2=>?_,?_,?_,?_,?_,?_,.inr ⟨r',lg',g',eS,hlg2,?_⟩⟩
   ·show _=[some (V.ref l),some (V.ref p),some (V.ref f),some (V.int ((pl+1+n:Nat):Int)),_,_,_]
    rw[←eb];rfl
   ·exact fun b u h=>(ax (aQ h hfn)).trans (sm3 b u h)
   ·rw[aa,hla];show some (HO.lst (_++[_]++_))=some (HO.lst (List.map V.int (out++_)));rw[List.map_append,List.append_assoc];rfl
   ·exact (st.tag b (by
     cases z:H b with
     |none=>exact absurd z hb2
     |some u=>rw[sD _ _ (sm _ _ z)];simp)).trans (tH b hb2)
   ·exact (Step.upd (R:=fun m=>m=1) (t:=t3) hf3 tf3).fr (st.fr (a6.fr sD fr))
   ·rw[ecr];exact gd3
   ·rw[ed2,edue,ecr,List.append_assoc,List.cons_append]
   ·rw[List.length_append,List.length_cons];omega
   ·rw[ecr];omega
   ·exact hB.RE (Step.upd hf3 tf3)
  ·have hge:cl.drop pl=[]:=by
    apply List.drop_eq_nil_of_le;have:¬pl<cl.length:=fun z=>h (decide_eq_true (by rw[List.length_map];omega))
    omega
   rw[hge,Fl.PD,List.append_nil]at ed2;rw[ed2]at k0;exact⟨_,rfl,k0 H2 f sm hfn hf2⟩
end
end Sb
namespace Sb
open PySem L2
noncomputable def cA:List Nat:=[98,218,267,302,337,372,560,750,863]
noncomputable def fA:List Nat:=[32,39,46,53,60,67,74,81,88,95,109,116,123,130,137,144,152,159,166,180,187,194,201,208,215,229,243,250,257,264,278,292,299,320,327,334,355,362,369,388,395,400,407,414,421,426,433,440,447,454,461,466,473,480,487,494,501,508,515,522,529,536,543,550,557,571,578,592,599,604,609,616,623,630,637,644,651,658,665,672,679,686,693,700,707,714,721,728,735,740,747,761,768,775,782,789,796,803,810,817,824,831,839,853,860,874,881,888,895,902,909,916,923,930,937,945,952,959,966,973,980,987,994,999,1006,1014,1022,1029]
noncomputable def pick:List Nat→Nat→Nat
 |[],_=>0
 |x::_,0=>x
 |_::t,n+1=>pick t n
abbrev EF(K:PySem.W.Frag)(x qual:Str)(st:Stmt)(f:Addr):Prop:=∃ fd,PR K x qual st f fd
noncomputable def fdOf(K:PySem.W.Frag)(f:Addr):FuncData:=match K.lookup f with
 |some ⟨_,_,.func fd,_⟩=>fd
 |_=>default
section
variable{K:PySem.W.Frag}{x qual:Str}{st:Stmt}{f:Addr}
theorem jU(h:EF K x qual st f):PR K x qual st f (fdOf K f):=by
 obtain⟨fd,F⟩:=h;have e:fdOf K f=fd:=by
  obtain⟨_,_,_,_,_,_,_,_,_,_,l,_⟩:=F.ex;unfold fdOf;rw[l]
 rw[e];exact F
theorem N5{oc:Value}{od an:Option Addr}{osl:Array (Option Value)}{kV doc pm cdv ct:Value}(l:K.lookup f=some ⟨oc,od,.func (PySem.W.fnOf x qual (fY st) (fz st) (ai st) .none kV doc pm an cdv ct),osl⟩)
  (c:PySem.W.codeIn K cdv qual=true) (k:PySem.W.keepIn K (.ref f)=true):EF K x qual st f:=⟨_,Qt l c k⟩
structure ME(K:PySem.W.Frag)(c:Addr)(x qual:Str)(st:Stmt)(f:Addr):Prop where
 at_:PySem.W.findIn K (.ref c) x=some (some (.ref f))
 fn:PySem.W.isFn K (.ref f)=true
 ef:EF K x qual st f
theorem Ri{c:Addr}{oc:Value}{od an:Option Addr}{osl:Array (Option Value)}{kV doc pm cdv ct:Value}(h:PySem.W.findIn K (.ref c) x=some (some (.ref f)))(i:PySem.W.isFn K (.ref f)=true)(l:K.lookup f=some ⟨oc,od,.func (PySem.W.fnOf x qual (fY st) (fz st) (ai st) .none kV doc pm an cdv ct),osl⟩)
  (cc:PySem.W.codeIn K cdv qual=true) (k:PySem.W.keepIn K (.ref f)=true):ME K c x qual st f:=⟨h,i,N5 l cc k⟩
theorem ME.me{c:Addr}(m:ME K c x qual st f):Meth K c x f:=⟨m.at_,m.fn,(jU m.ef).kp⟩
abbrev NS(K:PySem.W.Frag)(x:Str)(f:Addr):Prop:=PySem.W.nsIn K mainGlobals x=some (some (.ref f))
structure FN(K:PySem.W.Frag)(x:Str)(st:Stmt)(f:Addr):Prop where
 ns:NS K x f
 ef:EF K x x st f
theorem Rq{oc:Value}{od an:Option Addr}{osl:Array (Option Value)}{kV doc pm cdv ct:Value}(h:PySem.W.nsIn K mainGlobals x=some (some (.ref f)))(l:K.lookup f=some ⟨oc,od,.func (PySem.W.fnOf x x (fY st) (fz st) (ai st) .none kV doc pm an cdv ct),osl⟩)
  (cc:PySem.W.codeIn K cdv x=true) (k:PySem.W.keepIn K (.ref f)=true):FN K x st f:=⟨h,N5 l cc k⟩
structure DC(K:PySem.W.Frag)(x:Str)(c:Addr):Prop where
 cl:Ft K c
 ns:NS K x c
 SI:PySem.W.makesIn K c=true
 kc:PySem.W.keepIn K (.ref c)=true
theorem RA{c:Addr}(pg:PySem.W.plainGet K c Str.empty=true)(hd:PySem.W.hasDictIn K c=true)(po:PySem.W.plainOver K c=true)(sa:PySem.W.findIn K (.ref c) "__setattr__"=some (some (.builtin "object.__setattr__")))(ns:PySem.W.nsIn K mainGlobals x=some (some (.ref c)))(SI:PySem.W.makesIn K c=true)(kc:PySem.W.keepIn K (.ref c)=true):DC K x c:=⟨⟨pg,hd,po,sa⟩,ns,SI,kc⟩
theorem DC.vg{c:Addr}{y q2:Str}(d:DC K y c)(m:ME K c "__init__" q2 st f):Mk K c f:=⟨d.SI,m.at_,m.fn,d.kc⟩
theorem Q2{c:Addr}(h:PySem.W.findIn K (.ref c) x=some none):aB K c x:=h
theorem Rg(h:PySem.W.nsIn K mainGlobals x=some (some (.ref f))):NS K x f:=h
def Tp(K:PySem.W.Frag)(a:Addr)(xs:List V):Prop:=∃(o:Obj)(its:Array Value)(n:Nat),K.lookup a=some o∧o.cls=.type "tuple"∧o.data=.seq its n∧its.size≤sizeLine∧Vals xs its.toList
theorem RH{a:Addr}{xs:List V}{od:Option Addr}{its:Array Value}{n:Nat}{sl:Array (Option Value)}(l:K.lookup a=some ⟨.type "tuple",od,.seq its n,sl⟩)(hs:its.size≤sizeLine)(hv:Vals xs its.toList):Tp K a xs:=⟨_,its,n,l,rfl,rfl,hs,hv⟩
def NB(K:PySem.W.Frag)(x:Str):Prop:=PySem.W.nsIn K mainGlobals x=some none
theorem Rw(h:PySem.W.nsIn K mainGlobals x=some none):NB K x:=h
abbrev GI(K:PySem.W.Frag)(x:Str)(i:Int):Prop:=∃ t,PySem.W.nsIn K mainGlobals x=some (some (.int i t))
theorem Rn{i:Int}{t:Tok}(e:PySem.W.nsIn K mainGlobals x=some (some (.int i t))):GI K x i:=⟨t,e⟩
end
structure LV(K:PySem.W.Frag):Prop where
 c:DC K "Ball" 98
 og:aB K 98 "kind"
 Cf:aB K 98 "off"
 bz:aB K 98 "runs"
 y1:aB K 98 "line"
 hZ:aB K 98 "how"
 Ce:aB K 98 "out"
 DG:aB K 98 "end"
 d6:aB K 98 "fielder"
 BV:ME K 98 "__init__" "Ball.__init__" wR 32
 lX:ME K 98 "extra" "Ball.extra" tN 39
 dg:ME K 98 "tally" "Ball.tally" uc 46
 eh:ME K 98 "all_runs" "Ball.all_runs" nS 53
 fI:ME K 98 "runs_off" "Ball.runs_off" nJ 60
 dZ:ME K 98 "is_off_bat" "Ball.is_off_bat" lU 67
 kg:ME K 98 "bat_runs" "Ball.bat_runs" nH 74
 fh:ME K 98 "bowler_runs" "Ball.bowler_runs" kv 81
 fk:ME K 98 "is_boundary" "Ball.is_boundary" kK 88
 cM:ME K 98 "is_bowlers_wicket" "Ball.is_bowlers_wicket" gf 95
structure Du(K:PySem.W.Frag):Prop where
 c:DC K "Batter" 218
 oX:aB K 218 "place"
 bz:aB K 218 "runs"
 bS:aB K 218 "balls"
 tR:aB K 218 "fours"
 tT:aB K 218 "sixes"
 hZ:aB K 218 "how"
 fV:aB K 218 "bowler"
 d6:aB K 218 "fielder"
 yx:ME K 218 "__init__" "Batter.__init__" rD 180
 jq:ME K 218 "numbers" "Batter.numbers" mD 187
 dS:ME K 218 "may_come_in" "Batter.may_come_in" i7 194
 lh:ME K 218 "after" "Batter.after" qB 201
 mZ:ME K 218 "gone" "Batter.gone" rV 208
 mQ:ME K 218 "come" "Batter.come" rG 215
structure zY(K:PySem.W.Frag):Prop where
 c:DC K "Figures" 267
 bS:aB K 267 "balls"
 pB:aB K 267 "maidens"
 bz:aB K 267 "runs"
 pE:aB K 267 "wickets"
 jt:aB K 267 "wides"
 dH:aB K 267 "no_balls"
 xw:ME K 267 "__init__" "Figures.__init__" qL 243
 iL:ME K 267 "numbers" "Figures.numbers" lR 250
 kb:ME K 267 "after" "Figures.after" nT 257
 fB:ME K 267 "with_maiden" "Figures.with_maiden" iz 264
structure LY(K:PySem.W.Frag):Prop where
 c:DC K "Over" 302
 fV:aB K 302 "bowler"
 t8:aB K 302 "first"
 bS:aB K 302 "balls"
 bz:aB K 302 "runs"
 Cb:ME K 302 "__init__" "Over.__init__" vW 292
 oW:ME K 302 "after" "Over.after" tP 299
structure Io(K:PySem.W.Frag):Prop where
 c:DC K "Stand" 337
 wJ:aB K 337 "stayed"
 EG:aB K 337 "came"
 bz:aB K 337 "runs"
 bS:aB K 337 "balls"
 AD:ME K 337 "__init__" "Stand.__init__" uO 320
 ka:ME K 337 "numbers" "Stand.numbers" oj 327
 mW:ME K 337 "after" "Stand.after" rQ 334
structure Ly(K:PySem.W.Frag):Prop where
 c:DC K "Sums" 372
 bz:aB K 372 "runs"
 bS:aB K 372 "balls"
 jt:aB K 372 "wides"
 dH:aB K 372 "no_balls"
 AX:aB K 372 "byes"
 mJ:aB K 372 "leg_byes"
 kW:aB K 372 "penalties"
 B6:ME K 372 "__init__" "Sums.__init__" wH 355
 oS:ME K 372 "after" "Sums.after" tX 362
 fu:ME K 372 "with_penalties" "Sums.with_penalties" ip 369
structure zQ(K:PySem.W.Frag):Prop where
 c:DC K "Innings" 560
 pF:aB K 560 "side"
 dO:aB K 560 "over_length"
 gm:aB K 560 "ended"
 dP:aB K 560 "ends"
 kE:aB K 560 "sums"
 cH:aB K 560 "batters"
 ij:aB K 560 "figures"
 dz:aB K 560 "overs"
 sh:aB K 560 "told"
 rn:aB K 560 "falls"
 jX:aB K 560 "stands"
 wo:ME K 560 "__init__" "Innings.__init__" qk 388
 c6:ME K 560 "give_place" "Innings.give_place" iV 395
 fP:ME K 560 "been_in" "Innings.been_in" lr 400
 cy:ME K 560 "wickets_down" "Innings.wickets_down" gY 407
 bL:ME K 560 "has_empty_end" "Innings.has_empty_end" gu 414
 ft:ME K 560 "may_come_in" "Innings.may_come_in" ik 421
 cC:ME K 560 "somebody_may_come_in" "Innings.somebody_may_come_in" dF 426
 cf:ME K 560 "somebody_has_not_been_in" "Innings.somebody_has_not_been_in" cR 433
 iQ:ME K 560 "come_in" "Innings.come_in" la 440
 bQ:ME K 560 "over_goes_on" "Innings.over_goes_on" g6 447
 dm:ME K 560 "who_bowls" "Innings.who_bowls" jN 454
 dc:ME K 560 "bowled_last_over" "Innings.bowled_last_over" fc 461
 hJ:ME K 560 "overs_of" "Innings.overs_of" kL 466
 fS:ME K 560 "start_over" "Innings.start_over" jb 473
 dy:ME K 560 "has_whole_overs" "Innings.has_whole_overs" fE 480
 gn:ME K 560 "over_text" "Innings.over_text" jI 487
 dB:ME K 560 "change_ends" "Innings.change_ends" iD 494
 iH:ME K 560 "deliver" "Innings.deliver" lA 501
 eC:ME K 560 "move_batters" "Innings.move_batters" g9 508
 fq:ME K 560 "take_wicket" "Innings.take_wicket" iu 515
 e7:ME K 560 "send_off" "Innings.send_off" kJ 522
 fv:ME K 560 "finish_over" "Innings.finish_over" iq 529
 jB:ME K 560 "retire" "Innings.retire" mB 536
 cX:ME K 560 "add_penalties" "Innings.add_penalties" gH 543
 gX:ME K 560 "snapshot" "Innings.snapshot" kO 550
 iS:ME K 560 "restore" "Innings.restore" k7 557
structure L3(K:PySem.W.Frag):Prop where
 c:DC K "Game" 750
 jj:aB K 750 "innings_each"
 b6:aB K 750 "overs_limit"
 dO:aB K 750 "over_length"
 jd:aB K 750 "bowler_limit"
 jT:aB K 750 "follow_lead"
 bF:aB K 750 "played"
 wz:aB K 750 "owed"
 eU:aB K 750 "followed_on"
 dM:aB K 750 "time_is_up"
 Ca:ME K 750 "__init__" "Game.__init__" wd 592
 bb:ME K 750 "current" "Game.current" qu 599
 df:ME K 750 "innings_of" "Game.innings_of" lO 604
 ji:ME K 750 "runs_of" "Game.runs_of" qe 609
 e8:ME K 750 "lead_of" "Game.lead_of" pU 616
 dX:ME K 750 "all_opened" "Game.all_opened" k8 623
 eZ:ME K 750 "is_over" "Game.is_over" qd 630
 c7:ME K 750 "is_won_by_an_innings" "Game.is_won_by_an_innings" eH 637
 lM:ME K 750 "outcome" "Game.outcome" qj 644
 jy:ME K 750 "next_side" "Game.next_side" mO 651
 fM:ME K 750 "start_innings" "Game.start_innings" iX 658
 cE:ME K 750 "look_for_end" "Game.look_for_end" jJ 665
 j2:ME K 750 "may_bowl" "Game.may_bowl" ou 672
 lb:ME K 750 "deliver" "Game.deliver" pY 679
 mV:ME K 750 "retire" "Game.retire" rZ 686
 hC:ME K 750 "add_penalty" "Game.add_penalty" kR 693
 ez:ME K 750 "way_to_close" "Game.way_to_close" jL 700
 pd:ME K 750 "close" "Game.close" tO 707
 fL:ME K 750 "may_follow_on" "Game.may_follow_on" je 714
 jx:ME K 750 "follow_on" "Game.follow_on" mH 721
 gp:ME K 750 "may_be_drawn" "Game.may_be_drawn" jF 728
 gS:ME K 750 "end_by_time" "Game.end_by_time" kz 735
 j9:ME K 750 "snapshot" "Game.snapshot" nL 740
 k9:ME K 750 "restore" "Game.restore" qc 747
structure Lz(K:PySem.W.Frag):Prop where
 c:DC K "Book" 863
 i3:aB K 863 "game"
 wL:aB K 863 "kept"
 B0:ME K 863 "__init__" "Book.__init__" wI 853
 lC:ME K 863 "is_full" "Book.is_full" pT 860
structure SW(K:PySem.W.Frag):Prop where
 xE:FN K "is_ball" AQ 109
 gZ:FN K "is_within_bounds" kC 116
 uw:FN K "runs_fit" y4 123
 mP:FN K "wicket_fits" rB 130
 eT:FN K "is_out_while_running" hR 137
 lJ:FN K "fielder_fits" qx 144
 xM:FN K "written" BN 152
 lY:FN K "written_runs" qK 159
 ia:FN K "runs_and_sign" nR 166
 oP:FN K "new_batter" uu 229
 mX:FN K "new_figures" rR 278
 my:FN K "tail_of" Bw 571
 kQ:FN K "cut_back" yH 578
 fJ:FN K "done_if" BO 761
 pf:FN K "begin_rule" ug 768
 pS:FN K "opening_rule" qf 775
 rL:FN K "bowler_rule" rN 782
 wV:FN K "ball_rule" vQ 789
 mF:FN K "coming_in_rule" mN 796
 oe:FN K "retiring_rule" nI 803
 pR:FN K "penalty_rule" pZ 810
 pX:FN K "closing_rule" qH 817
 jE:FN K "following_on_rule" jH 824
 qD:FN K "drawing_rule" qI 831
 o9:FN K "verdict_on" uj 839
 Dt:FN K "begin" Il 874
 qo:FN K "open_innings" qh 881
 rA:FN K "tell_bowler" rM 888
 wb:FN K "tell_ball" wF 895
 Bz:FN K "come_in" BQ 902
 EL:FN K "retire" DU 909
 BP:FN K "penalty" BJ 916
 Bi:FN K "declare" AL 923
 wQ:FN K "follow_on" wK 930
 KW:FN K "draw" Kw 937
 HM:FN K "tell" Lg 945
 G6:FN K "undo" Ld 952
 NO:FN K "now" NH 959
 GG:FN K "total" Iq 966
 D9:FN K "batter" E3 973
 BG:FN K "bowling" BL 980
 Lc:FN K "fall" Lj 987
 Iw:FN K "stand" HU 994
 KS:FN K "over" K8 999
 EO:FN K "result" Ep 1006
 HP:FN K "read" Kk 1014
 xN:FN K "answers" BI 1022
 ph:FN K "answer_one" uk 1029
structure SU(K:PySem.W.Frag):Prop where
 c8:NB K "len"
 NV:NB K "sum"
 Oc:NB K "any"
 Og:NB K "ord"
 pV:NB K "list"
 LD:NB K "str"
 Dv:NB K "range"
 zg:GI K "FAIR" 0
 xi:GI K "WIDE" 1
 pz:GI K "NO_BALL" 2
 sy:GI K "OFF_BAT" 0
 K3:GI K "BYES" 1
 uJ:GI K "LEG_BYES" 2
 ig:GI K "NOT_OUT" 0
 En:GI K "CAUGHT" 2
 Bq:GI K "STUMPED" 4
 uB:GI K "HIT_WICKET" 5
 xP:GI K "RUN_OUT" 6
 ub:GI K "IN_THE_WAY" 7
 dQ:GI K "NOBODY" 11
 nE:GI K "WENT_HURT" 9
 yG:GI K "WENT_OUT" 10
 gz:GI K "PLAYERS" 11
 pq:GI K "GOES_ON" 0
 xK:GI K "ALL_OUT" 1
 Ei:GI K "CLOSED" 2
 pG:GI K "OVERS_BOWLED" 3
 nQ:GI K "TARGET_PASSED" 4
 By:GI K "TIME_UP" 5
 xf:GI K "UNDECIDED" 0
 rX:GI K "WON_BY_RUNS" 1
 mw:GI K "WON_BY_WICKETS" 3
 jP:GI K "WON_BY_AN_INNINGS" 5
 Bs:GI K "AS_MANY" 7
 qt:GI K "NO_TIME_LEFT" 8
 lB:GI K "PENALTY_RUNS" 5
 Bu:GI K "WICKETS" 10
 kB:GI K "DONE" 0
 eN:GI K "WRONG" (-1)
 px:GI K "REFUSED" (-2)
 wO:GI K "MOST_KEPT" 32768
 Hs:GI K "BEGIN" 0
 HD:GI K "UNDO" 10
 uF:GI K "FIRST_READ" 11
 y2:NS K "WAYS_OUT" 18
 wa:NS K "OFF_SIGNS" 145
 HI:NS K "RULES" 832
 DY:NS K "THINGS" 938
 HN:NS K "READS" 1007
 G0:NS K "SIZES" 1015
 yM:Tp K 18 [.ref 15,.ref 16,.ref 17]
 uz:Tp K 15 [.int 0,.int 1,.int 2,.int 3,.int 4,.int 5,.int 6,.int 7,.int 8]
 tQ:Tp K 16 [.int 0,.int 4,.int 5,.int 6,.int 7]
 uQ:Tp K 17 [.int 0,.int 6,.int 7,.int 8]
 xr:Tp K 145 [.str "",.str "b",.str "lb"]
 kZ:Tp K 832 [.ref 775,.ref 782,.ref 789,.ref 796,.ref 803,.ref 810,.ref 817,.ref 824,.ref 831]
 i8:Tp K 938 [.ref 881,.ref 888,.ref 895,.ref 902,.ref 909,.ref 916,.ref 923,.ref 930,.ref 937]
 mS:Tp K 1007 [.ref 959,.ref 966,.ref 973,.ref 980,.ref 987,.ref 994,.ref 999,.ref 1006]
 Hm:Tp K 1015 [.int 5,.int 2,.int 1,.int 8,.int 1,.int 2,.int 1,.int 0,.int 0,.int 0,.int 0,.int 0,.int 1,.int 2,.int 2,.int 2,.int 2,.int 3,.int 0]
noncomputable def gA:List Nat:=[18,145,832,938,1007,1015,0,0,0,0,15,16,17]
noncomputable abbrev ad(K:PySem.W.Frag):Ad:=⟨pick cA,pick fA,fun n=>fdOf K (pick fA n),pick gA⟩
section
variable{K:PySem.W.Frag}{x qual:Str}{st:Stmt}{f:Addr}
theorem fH{P:List Value→Prop}{n:Nat}(h:∀ u us,us.length=n→P (u::us))(us:List Value)(e:us.length=n+1):P us:=match us,e with|u::us,e=>h u us (Nat.succ.inj e)
theorem yt{P:List Value→Prop}(h:P [])(us:List Value)(e:us.length=0):P us:=match us,e with|[],_=>h
theorem SY(F:EF K x qual st f)(h:∀ (kV doc pm:Value) (an:Option Addr) (cdv ct:Value),bindArgs (PySem.W.fnOf x qual (fY st) (fz st) (ai st) .none kV doc pm an cdv ct) ⟨[],[]⟩=pure []):FB K x qual st [] f (fdOf K f):=⟨jU F,(jU F).binds fun _ _ _ _ _ _=>yt (h _ _ _ _ _ _)⟩
theorem n9{p0:Str}(F:EF K x qual st f)(h:∀ (kV doc pm:Value) (an:Option Addr) (cdv ct u0:Value),bindArgs (PySem.W.fnOf x qual (fY st) (fz st) (ai st) .none kV doc pm an cdv ct) ⟨[u0],[]⟩=pure [(p0,u0)]):FB K x qual st [p0] f (fdOf K f):=⟨jU F,(jU F).binds fun _ _ _ _ _ _=>fH fun u0=>yt (h _ _ _ _ _ _ u0)⟩
theorem lQ{p0 p1:Str}(F:EF K x qual st f)(h:∀ (kV doc pm:Value) (an:Option Addr) (cdv ct u0 u1:Value),bindArgs (PySem.W.fnOf x qual (fY st) (fz st) (ai st) .none kV doc pm an cdv ct) ⟨[u0,u1],[]⟩=pure [(p0,u0),(p1,u1)]):FB K x qual st [p0,p1] f (fdOf K f):=⟨jU F,(jU F).binds fun _ _ _ _ _ _=>fH fun u0=>fH fun u1=>yt (h _ _ _ _ _ _ u0 u1)⟩
theorem Qz{p0 p1 p2:Str}(F:EF K x qual st f)(h:∀ (kV doc pm:Value) (an:Option Addr) (cdv ct u0 u1 u2:Value),bindArgs (PySem.W.fnOf x qual (fY st) (fz st) (ai st) .none kV doc pm an cdv ct) ⟨[u0,u1,u2],[]⟩=pure [(p0,u0),(p1,u1),(p2,u2)]):FB K x qual st [p0,p1,p2] f (fdOf K f):=⟨jU F,(jU F).binds fun _ _ _ _ _ _=>fH fun u0=>fH fun u1=>fH fun u2=>yt (h _ _ _ _ _ _ u0 u1 u2)⟩
theorem Tu{p0 p1 p2 p3:Str}(F:EF K x qual st f)(h:∀ (kV doc pm:Value) (an:Option Addr) (cdv ct u0 u1 u2 u3:Value),bindArgs (PySem.W.fnOf x qual (fY st) (fz st) (ai st) .none kV doc pm an cdv ct) ⟨[u0,u1,u2,u3],[]⟩=pure [(p0,u0),(p1,u1),(p2,u2),(p3,u3)]):FB K x qual st [p0,p1,p2,p3] f (fdOf K f):=⟨jU F,(jU F).binds fun _ _ _ _ _ _=>fH fun u0=>fH fun u1=>fH fun u2=>fH fun u3=>yt (h _ _ _ _ _ _ u0 u1 u2 u3)⟩
theorem RJ{p0 p1 p2 p3 p4:Str}(F:EF K x qual st f)(h:∀ (kV doc pm:Value) (an:Option Addr) (cdv ct u0 u1 u2 u3 u4:Value),bindArgs (PySem.W.fnOf x qual (fY st) (fz st) (ai st) .none kV doc pm an cdv ct) ⟨[u0,u1,u2,u3,u4],[]⟩=pure [(p0,u0),(p1,u1),(p2,u2),(p3,u3),(p4,u4)]):FB K x qual st [p0,p1,p2,p3,p4] f (fdOf K f):=⟨jU F,(jU F).binds fun _ _ _ _ _ _=>fH fun u0=>fH fun u1=>fH fun u2=>fH fun u3=>fH fun u4=>yt (h _ _ _ _ _ _ u0 u1 u2 u3 u4)⟩
theorem Th{p0 p1 p2 p3 p4 p5:Str}(F:EF K x qual st f)(h:∀ (kV doc pm:Value) (an:Option Addr) (cdv ct u0 u1 u2 u3 u4 u5:Value),bindArgs (PySem.W.fnOf x qual (fY st) (fz st) (ai st) .none kV doc pm an cdv ct) ⟨[u0,u1,u2,u3,u4,u5],[]⟩=pure [(p0,u0),(p1,u1),(p2,u2),(p3,u3),(p4,u4),(p5,u5)]):FB K x qual st [p0,p1,p2,p3,p4,p5] f (fdOf K f):=⟨jU F,(jU F).binds fun _ _ _ _ _ _=>fH fun u0=>fH fun u1=>fH fun u2=>fH fun u3=>fH fun u4=>fH fun u5=>yt (h _ _ _ _ _ _ u0 u1 u2 u3 u4 u5)⟩
theorem Ti{p0 p1 p2 p3 p4 p5 p6:Str}(F:EF K x qual st f)(h:∀ (kV doc pm:Value) (an:Option Addr) (cdv ct u0 u1 u2 u3 u4 u5 u6:Value),bindArgs (PySem.W.fnOf x qual (fY st) (fz st) (ai st) .none kV doc pm an cdv ct) ⟨[u0,u1,u2,u3,u4,u5,u6],[]⟩=pure [(p0,u0),(p1,u1),(p2,u2),(p3,u3),(p4,u4),(p5,u5),(p6,u6)]):FB K x qual st [p0,p1,p2,p3,p4,p5,p6] f (fdOf K f):=⟨jU F,(jU F).binds fun _ _ _ _ _ _=>fH fun u0=>fH fun u1=>fH fun u2=>fH fun u3=>fH fun u4=>fH fun u5=>fH fun u6=>yt (h _ _ _ _ _ _ u0 u1 u2 u3 u4 u5 u6)⟩
theorem TJ{p0 p1 p2 p3 p4 p5 p6 p7:Str}(F:EF K x qual st f)(h:∀ (kV doc pm:Value) (an:Option Addr) (cdv ct u0 u1 u2 u3 u4 u5 u6 u7:Value),bindArgs (PySem.W.fnOf x qual (fY st) (fz st) (ai st) .none kV doc pm an cdv ct) ⟨[u0,u1,u2,u3,u4,u5,u6,u7],[]⟩=pure [(p0,u0),(p1,u1),(p2,u2),(p3,u3),(p4,u4),(p5,u5),(p6,u6),(p7,u7)]):FB K x qual st [p0,p1,p2,p3,p4,p5,p6,p7] f (fdOf K f):=⟨jU F,(jU F).binds fun _ _ _ _ _ _=>fH fun u0=>fH fun u1=>fH fun u2=>fH fun u3=>fH fun u4=>fH fun u5=>fH fun u6=>fH fun u7=>yt (h _ _ _ _ _ _ u0 u1 u2 u3 u4 u5 u6 u7)⟩
theorem TC{p0 p1 p2 p3 p4 p5 p6 p7 p8:Str}(F:EF K x qual st f)(h:∀ (kV doc pm:Value) (an:Option Addr) (cdv ct u0 u1 u2 u3 u4 u5 u6 u7 u8:Value),bindArgs (PySem.W.fnOf x qual (fY st) (fz st) (ai st) .none kV doc pm an cdv ct) ⟨[u0,u1,u2,u3,u4,u5,u6,u7,u8],[]⟩=pure [(p0,u0),(p1,u1),(p2,u2),(p3,u3),(p4,u4),(p5,u5),(p6,u6),(p7,u7),(p8,u8)]):FB K x qual st [p0,p1,p2,p3,p4,p5,p6,p7,p8] f (fdOf K f):=⟨jU F,(jU F).binds fun _ _ _ _ _ _=>fH fun u0=>fH fun u1=>fH fun u2=>fH fun u3=>fH fun u4=>fH fun u5=>fH fun u6=>fH fun u7=>fH fun u8=>yt (h _ _ _ _ _ _ u0 u1 u2 u3 u4 u5 u6 u7 u8)⟩
end
section
variable{K:PySem.W.Frag}{mg:Str→Option Value}{h:Heap}(KX:K.In h)(G:h.Ns mainGlobals mg)
include KX G
theorem O2(D:LV K):NC K mg (ad K):=
 ⟨D.c.cl,PySem.W.mg_of KX G D.c.ns,D.c.vg D.BV,D.og,D.Cf,D.bz,D.y1,D.hZ,D.Ce,D.DG,D.d6,lQ D.BV.ef (by intros;kernel_rfl),n9 D.lX.ef (by intros;kernel_rfl),D.lX.me,lQ D.dg.ef (by intros;kernel_rfl),D.dg.me,n9 D.eh.ef (by intros;kernel_rfl),D.eh.me,lQ D.fI.ef (by intros;kernel_rfl),D.fI.me,n9 D.dZ.ef (by intros;kernel_rfl),D.dZ.me,n9 D.kg.ef (by intros;kernel_rfl),D.kg.me,n9 D.fh.ef (by intros;kernel_rfl),D.fh.me,lQ D.fk.ef (by intros;kernel_rfl),D.fk.me,n9 D.cM.ef (by intros;kernel_rfl),D.cM.me⟩
theorem MR(D:Du K):JM K mg (ad K):=
 ⟨D.c.cl,PySem.W.mg_of KX G D.c.ns,D.c.vg D.yx,D.oX,D.bz,D.bS,D.tR,D.tT,D.hZ,D.fV,D.d6,TC D.yx.ef (by intros;kernel_rfl),n9 D.jq.ef (by intros;kernel_rfl),D.jq.me,n9 D.dS.ef (by intros;kernel_rfl),D.dS.me,lQ D.lh.ef (by intros;kernel_rfl),D.lh.me,Tu D.mZ.ef (by intros;kernel_rfl),D.mZ.me,lQ D.mQ.ef (by intros;kernel_rfl),D.mQ.me⟩
theorem K7(D:zY K):Gj K mg (ad K):=
 ⟨D.c.cl,PySem.W.mg_of KX G D.c.ns,D.c.vg D.xw,D.bS,D.pB,D.bz,D.pE,D.jt,D.dH,Ti D.xw.ef (by intros;kernel_rfl),n9 D.iL.ef (by intros;kernel_rfl),D.iL.me,lQ D.kb.ef (by intros;kernel_rfl),D.kb.me,n9 D.fB.ef (by intros;kernel_rfl),D.fB.me⟩
theorem Pd(D:LY K):Nm K mg (ad K):=
 ⟨D.c.cl,PySem.W.mg_of KX G D.c.ns,D.c.vg D.Cb,D.fV,D.t8,D.bS,D.bz,RJ D.Cb.ef (by intros;kernel_rfl),lQ D.oW.ef (by intros;kernel_rfl),D.oW.me⟩
theorem N9(D:Io K):LZ K mg (ad K):=
 ⟨D.c.cl,PySem.W.mg_of KX G D.c.ns,D.c.vg D.AD,D.wJ,D.EG,D.bz,D.bS,RJ D.AD.ef (by intros;kernel_rfl),n9 D.ka.ef (by intros;kernel_rfl),D.ka.me,lQ D.mW.ef (by intros;kernel_rfl),D.mW.me⟩
theorem ON(D:Ly K):Oa K mg (ad K):=
 ⟨D.c.cl,PySem.W.mg_of KX G D.c.ns,D.c.vg D.B6,D.bz,D.bS,D.jt,D.dH,D.AX,D.mJ,D.kW,TJ D.B6.ef (by intros;kernel_rfl),lQ D.oS.ef (by intros;kernel_rfl),D.oS.me,lQ D.fu.ef (by intros;kernel_rfl),D.fu.me⟩
theorem Kx(D:zQ K):Gh K mg (ad K):=
 ⟨D.c.cl,PySem.W.mg_of KX G D.c.ns,D.c.vg D.wo,D.pF,D.dO,D.gm,D.dP,D.kE,D.cH,D.ij,D.dz,D.sh,D.rn,D.jX,RJ D.wo.ef (by intros;kernel_rfl),lQ D.c6.ef (by intros;kernel_rfl),D.c6.me,n9 D.fP.ef (by intros;kernel_rfl),D.fP.me,n9 D.cy.ef (by intros;kernel_rfl),D.cy.me,n9 D.bL.ef (by intros;kernel_rfl),D.bL.me,lQ D.ft.ef (by intros;kernel_rfl),D.ft.me,n9 D.cC.ef (by intros;kernel_rfl),D.cC.me,n9 D.cf.ef (by intros;kernel_rfl),D.cf.me,lQ D.iQ.ef (by intros;kernel_rfl),D.iQ.me,n9 D.bQ.ef (by intros;kernel_rfl),D.bQ.me,n9 D.dm.ef (by intros;kernel_rfl),D.dm.me,lQ D.dc.ef (by intros;kernel_rfl),D.dc.me,lQ D.hJ.ef (by intros;kernel_rfl),D.hJ.me,lQ D.fS.ef (by intros;kernel_rfl),D.fS.me,lQ D.dy.ef (by intros;kernel_rfl),D.dy.me,lQ D.gn.ef (by intros;kernel_rfl),D.gn.me,n9 D.dB.ef (by intros;kernel_rfl),D.dB.me,lQ D.iH.ef (by intros;kernel_rfl),D.iH.me,lQ D.eC.ef (by intros;kernel_rfl),D.eC.me,lQ D.fq.ef (by intros;kernel_rfl),D.fq.me,RJ D.e7.ef (by intros;kernel_rfl),D.e7.me,n9 D.fv.ef (by intros;kernel_rfl),D.fv.me,Qz D.jB.ef (by intros;kernel_rfl),D.jB.me,lQ D.cX.ef (by intros;kernel_rfl),D.cX.me,n9 D.gX.ef (by intros;kernel_rfl),D.gX.me,lQ D.iS.ef (by intros;kernel_rfl),D.iS.me⟩
theorem Pp(D:L3 K):NN K mg (ad K):=
 ⟨D.c.cl,PySem.W.mg_of KX G D.c.ns,D.c.vg D.Ca,D.jj,D.b6,D.dO,D.jd,D.jT,D.bF,D.wz,D.eU,D.dM,Th D.Ca.ef (by intros;kernel_rfl),n9 D.bb.ef (by intros;kernel_rfl),D.bb.me,lQ D.df.ef (by intros;kernel_rfl),D.df.me,lQ D.ji.ef (by intros;kernel_rfl),D.ji.me,lQ D.e8.ef (by intros;kernel_rfl),D.e8.me,n9 D.dX.ef (by intros;kernel_rfl),D.dX.me,n9 D.eZ.ef (by intros;kernel_rfl),D.eZ.me,n9 D.c7.ef (by intros;kernel_rfl),D.c7.me,n9 D.lM.ef (by intros;kernel_rfl),D.lM.me,n9 D.jy.ef (by intros;kernel_rfl),D.jy.me,Qz D.fM.ef (by intros;kernel_rfl),D.fM.me,n9 D.cE.ef (by intros;kernel_rfl),D.cE.me,lQ D.j2.ef (by intros;kernel_rfl),D.j2.me,lQ D.lb.ef (by intros;kernel_rfl),D.lb.me,Qz D.mV.ef (by intros;kernel_rfl),D.mV.me,lQ D.hC.ef (by intros;kernel_rfl),D.hC.me,n9 D.ez.ef (by intros;kernel_rfl),D.ez.me,n9 D.pd.ef (by intros;kernel_rfl),D.pd.me,n9 D.fL.ef (by intros;kernel_rfl),D.fL.me,n9 D.jx.ef (by intros;kernel_rfl),D.jx.me,n9 D.gp.ef (by intros;kernel_rfl),D.gp.me,n9 D.gS.ef (by intros;kernel_rfl),D.gS.me,n9 D.j9.ef (by intros;kernel_rfl),D.j9.me,lQ D.k9.ef (by intros;kernel_rfl),D.k9.me⟩
theorem Pj(D:Lz K):Nw K mg (ad K):=
 ⟨D.c.cl,PySem.W.mg_of KX G D.c.ns,D.c.vg D.B0,D.i3,D.wL,n9 D.B0.ef (by intros;kernel_rfl),n9 D.lC.ef (by intros;kernel_rfl),D.lC.me⟩
theorem dE{x:Str}{i:Int}(e:GI K x i):∃ t,mg x=some (.int i t):=let⟨t,e⟩:=e;⟨t,PySem.W.mg_of KX G e⟩
theorem Q6(A:SW K)(D:SU K):Ro K mg (ad K):=
 ⟨PySem.W.mg_none_of KX G D.c8,PySem.W.mg_none_of KX G D.NV,PySem.W.mg_none_of KX G D.Oc,PySem.W.mg_none_of KX G D.Og,PySem.W.mg_none_of KX G D.pV,PySem.W.mg_none_of KX G D.LD,PySem.W.mg_none_of KX G D.Dv,n9 A.xE.ef (by intros;kernel_rfl),PySem.W.mg_of KX G A.xE.ns,n9 A.gZ.ef (by intros;kernel_rfl),PySem.W.mg_of KX G A.gZ.ns,n9 A.uw.ef (by intros;kernel_rfl),PySem.W.mg_of KX G A.uw.ns,n9 A.mP.ef (by intros;kernel_rfl),PySem.W.mg_of KX G A.mP.ns,n9 A.eT.ef (by intros;kernel_rfl),PySem.W.mg_of KX G A.eT.ns,n9 A.lJ.ef (by intros;kernel_rfl),PySem.W.mg_of KX G A.lJ.ns,n9 A.xM.ef (by intros;kernel_rfl),PySem.W.mg_of KX G A.xM.ns,n9 A.lY.ef (by intros;kernel_rfl),PySem.W.mg_of KX G A.lY.ns,n9 A.ia.ef (by intros;kernel_rfl),PySem.W.mg_of KX G A.ia.ns,SY A.oP.ef (by intros;kernel_rfl),PySem.W.mg_of KX G A.oP.ns,SY A.mX.ef (by intros;kernel_rfl),PySem.W.mg_of KX G A.mX.ns,n9 A.my.ef (by intros;kernel_rfl),PySem.W.mg_of KX G A.my.ns,lQ A.kQ.ef (by intros;kernel_rfl),PySem.W.mg_of KX G A.kQ.ns,n9 A.fJ.ef (by intros;kernel_rfl),PySem.W.mg_of KX G A.fJ.ns,n9 A.pf.ef (by intros;kernel_rfl),PySem.W.mg_of KX G A.pf.ns,lQ A.pS.ef (by intros;kernel_rfl),PySem.W.mg_of KX G A.pS.ns,lQ A.rL.ef (by intros;kernel_rfl),PySem.W.mg_of KX G A.rL.ns,lQ A.wV.ef (by intros;kernel_rfl),PySem.W.mg_of KX G A.wV.ns,lQ A.mF.ef (by intros;kernel_rfl),PySem.W.mg_of KX G A.mF.ns,lQ A.oe.ef (by intros;kernel_rfl),PySem.W.mg_of KX G A.oe.ns,lQ A.pR.ef (by intros;kernel_rfl),PySem.W.mg_of KX G A.pR.ns,lQ A.pX.ef (by intros;kernel_rfl),PySem.W.mg_of KX G A.pX.ns,lQ A.jE.ef (by intros;kernel_rfl),PySem.W.mg_of KX G A.jE.ns,lQ A.qD.ef (by intros;kernel_rfl),PySem.W.mg_of KX G A.qD.ns,Qz A.o9.ef (by intros;kernel_rfl),PySem.W.mg_of KX G A.o9.ns,lQ A.Dt.ef (by intros;kernel_rfl),PySem.W.mg_of KX G A.Dt.ns,lQ A.qo.ef (by intros;kernel_rfl),PySem.W.mg_of KX G A.qo.ns,lQ A.rA.ef (by intros;kernel_rfl),PySem.W.mg_of KX G A.rA.ns,lQ A.wb.ef (by intros;kernel_rfl),PySem.W.mg_of KX G A.wb.ns,lQ A.Bz.ef (by intros;kernel_rfl),PySem.W.mg_of KX G A.Bz.ns,lQ A.EL.ef (by intros;kernel_rfl),PySem.W.mg_of KX G A.EL.ns,lQ A.BP.ef (by intros;kernel_rfl),PySem.W.mg_of KX G A.BP.ns,lQ A.Bi.ef (by intros;kernel_rfl),PySem.W.mg_of KX G A.Bi.ns,lQ A.wQ.ef (by intros;kernel_rfl),PySem.W.mg_of KX G A.wQ.ns,lQ A.KW.ef (by intros;kernel_rfl),PySem.W.mg_of KX G A.KW.ns,Qz A.HM.ef (by intros;kernel_rfl),PySem.W.mg_of KX G A.HM.ns,n9 A.G6.ef (by intros;kernel_rfl),PySem.W.mg_of KX G A.G6.ns,lQ A.NO.ef (by intros;kernel_rfl),PySem.W.mg_of KX G A.NO.ns,lQ A.GG.ef (by intros;kernel_rfl),PySem.W.mg_of KX G A.GG.ns,lQ A.D9.ef (by intros;kernel_rfl),PySem.W.mg_of KX G A.D9.ns,lQ A.BG.ef (by intros;kernel_rfl),PySem.W.mg_of KX G A.BG.ns,lQ A.Lc.ef (by intros;kernel_rfl),PySem.W.mg_of KX G A.Lc.ns,lQ A.Iw.ef (by intros;kernel_rfl),PySem.W.mg_of KX G A.Iw.ns,lQ A.KS.ef (by intros;kernel_rfl),PySem.W.mg_of KX G A.KS.ns,lQ A.EO.ef (by intros;kernel_rfl),PySem.W.mg_of KX G A.EO.ns,Qz A.HP.ef (by intros;kernel_rfl),PySem.W.mg_of KX G A.HP.ns,n9 A.xN.ef (by intros;kernel_rfl),PySem.W.mg_of KX G A.xN.ns,Qz A.ph.ef (by intros;kernel_rfl),PySem.W.mg_of KX G A.ph.ns,dE KX G D.zg,dE KX G D.xi,dE KX G D.pz,dE KX G D.sy,dE KX G D.K3,dE KX G D.uJ,dE KX G D.ig,dE KX G D.En,dE KX G D.Bq,dE KX G D.uB,dE KX G D.xP,dE KX G D.ub,dE KX G D.dQ,dE KX G D.nE,dE KX G D.yG,dE KX G D.gz,dE KX G D.pq,dE KX G D.xK,dE KX G D.Ei,dE KX G D.pG,dE KX G D.nQ,dE KX G D.By,dE KX G D.xf,dE KX G D.rX,dE KX G D.mw,dE KX G D.jP,dE KX G D.Bs,dE KX G D.qt,dE KX G D.lB,dE KX G D.Bu,dE KX G D.kB,dE KX G D.eN,dE KX G D.px,dE KX G D.wO,dE KX G D.Hs,dE KX G D.HD,dE KX G D.uF,PySem.W.mg_of KX G D.y2,PySem.W.mg_of KX G D.wa,PySem.W.mg_of KX G D.HI,PySem.W.mg_of KX G D.DY,PySem.W.mg_of KX G D.HN,PySem.W.mg_of KX G D.G0,fun _=>.inr D.yM,fun _=>.inr D.uz,fun _=>.inr D.tQ,fun _=>.inr D.uQ,fun _=>.inr D.xr,fun _=>.inr D.kZ,fun _=>.inr D.i8,fun _=>.inr D.mS,fun _=>.inr D.Hm⟩
theorem P7(LV:LV K)(Du:Du K)(zY:zY K)(LY:LY K)(Io:Io K)(Ly:Ly K)(zQ:zQ K)(L3:L3 K)(Lz:Lz K)(A:SW K)(B:SU K):Txt K mg (ad K):=⟨O2 KX G LV,MR KX G Du,K7 KX G zY,Pd KX G LY,N9 KX G Io,ON KX G Ly,Kx KX G zQ,Pp KX G L3,Pj KX G Lz,Q6 KX G A B⟩
end
end Sb
namespace Sb
open PySem PySem.Spec PyProof.Rows L2
theorem L8{P:Program}{w:World}{K:PySem.W.Frag}{mg mb:Str→Option Value}{CX:NQ}{k:Nat}{fa a:Addr}{fd:FuncData}{x:Str}{sp:Sp}{s₁:Shared}{vs:List Value}{ns:List Int}{Q:VK}
  (KX:K.In s₁.heap) (hns:s₁.heap.Ns mainGlobals mg) (hb:s₁.heap.Ns builtinsNs mb) (hbb:∀ x:Str,x≠"__name__"→mb x=bootBuiltins x) (hlim:s₁.heap.NoLimit) (hg:s₁.gens=#[])
  (ha:s₁.heap.get? a=some { cls:=.type "list",data:=.seq vs.toArray }) (hi:IntsAre vs ns) (hl:ns.length≤sizeLine) (hr:mE k callerA)
  (F:∀ base:Heap,K.In base→base.Ns mainGlobals mg→aZ P w K mg base CX k fa fd [x] sp) (hbind:BindsTo s₁ fd ⟨[.ref a],[]⟩ [(x,.ref a)])
  (hsp:∀ H:Hp,Q0 H→bD K H a (ns.map V.int)→sp [.ref a] H Q fun _ _ _=>False)
  (hCX:∀ H e s',CX [] H s₁ (fun _ _ _=>False) e s'→False) :
  codeAny (model P w) callerA (.call (.ref fa) ⟨[.ref a],[]⟩) (fun r s'=>(∃ v u H',r=.ok (.ret u)∧RelV v u∧Q v H'∧Cc P w H' s'.heap)∧OldK s₁.heap s'.heap∧s'.os=s₁.os∧AllBare s'.gens) s₁:=by
 have rv:=Gi hi;have lenV:=hi.length;have core:∀ H:Hp,Q0 H→bD K H a (ns.map V.int)→Cc P w H s₁.heap→(∀ b,H b≠none→b=a)→(H a≠none→K.lookup a=none)→
   codeAny (model P w) callerA (.call (.ref fa) ⟨[.ref a],[]⟩) (fun r s'=>(∃ v u H',r=.ok (.ret u)∧RelV v u∧Q v H'∧Cc P w H' s'.heap)∧OldK s₁.heap s'.heap∧s'.os=s₁.os∧AllBare s'.gens) s₁:=by
  intro H hO hS fD hA hK;have base_of:∀{b:Addr}{o:Obj},s₁.heap.get? b=some o→H b=none→(GL s₁.heap H).get? b=some o:=fun e n=>NP e n
  have noA:∀{b:Addr}{o:Obj}{es:Array DictEntry}{ep:Nat},s₁.heap.get? b=some o→o.data=.dict es ep→H b=none:=fun{b o es ep} e d=>by
   cases q:H b with
   |none=>rfl
   |some u=>
    have e':b=a:=hA b (by rw[q];simp);subst e';rw[ha]at e;cases e;have d':Data.seq vs.toArray _=Data.dict es ep:=d
    cases d'
  have nsK:∀{b:Addr}{m:Str→Option Value},s₁.heap.Ns b m→(GL s₁.heap H).Ns b m:=fun{b m} ⟨o,es,ep,e,d,r⟩=>⟨o,es,ep,base_of e (noA e d),d,r⟩
  have hKb:K.In (GL s₁.heap H):=fun b o e=>base_of (KX b o e) (by
   cases q:H b with
   |none=>rfl
   |some u=>
    have e':b=a:=hA b (by rw[q];simp);subst e'
    rw[hK (by rw[q];simp)]at e;cases e)
  have hM:Mod K mg (GL s₁.heap H):=⟨hKb,nsK hns,⟨mb,nsK hb,hbb⟩,let⟨mc,h1,h2⟩:=hlim;⟨mc,nsK h1,h2⟩⟩
  have e0:Kg P w K mg (GL s₁.heap H) callerA [] s₁ H:=⟨rfl,hM,fun b o e=>OS e,Nat.le_of_eq (Mi _ _),trivial,fun b hb=>absurd (show b∈([]:List Addr) from hb) (by simp),fD,.of_eq hg⟩
  refine codeAny_mono ((F _ hKb (nsK hns)).run callerA [] s₁ H ⟨[.ref a],[]⟩ [.ref a] [.ref a] _ _ hr e0 hbind (.cons rfl .nil) (hsp H hO hS)) fun r s' h=>?_
  cases r with
  |error e=>exact (hCX H e s' h).elim
  |ok fl=>
   cases fl with
   |next=>exact False.elim h
   |brk=>exact False.elim h
   |cont=>exact False.elim h
   |ret u=>
    obtain⟨v,H',os,bare,un,hok',r',q⟩:=h;refine⟨⟨v,u,H',rfl,r',q,hok'⟩,OldK.of_keep fun b o e=>?_,os,bare⟩
    cases q:H b with
    |none=>exact un.keep b o e q (by intro z;exact absurd (show b∈([]:List Addr) from z) (by simp)) (by simp)
    |some u=>
     rcases hO b with z|⟨ob,xs,z⟩
     ·rw[q]at z;cases z
     ·have z2:=un.Ii b ob _ z;obtain⟨e1,_⟩:=fD b _ z;obtain⟨e2,_⟩:=hok' b _ z2;rw[e]at e1;cases e1;exact e2
 cases hk:K.lookup a with
 |some o=>
  have e:=KX a o hk;rw[ha]at e;cases e;refine core (fun _=>none) (fun _=>.inl rfl) (.inr ⟨_,vs.toArray,_,hk,rfl,rfl,rfl,by rw[List.size_toArray,lenV];exact hl,by simpa using rv⟩) (fun b u z=>by have z':(none:Option HO)=some u:=z;cases z') (fun b z=>absurd rfl z) fun z=>absurd rfl z
 |none=>
  refine core (fun b=>if b=a then some (.frz { cls:=.type "list",data:=.seq vs.toArray } (.lst (ns.map V.int)))else none) (fun b=>?_) (.inl (.inr ⟨{ cls:=.type "list",data:=.seq vs.toArray },if_pos rfl⟩)) (fun b u z=>?_) (fun b z=>?_) fun _=>hk
  ·by_cases hb:b=a
   ·exact .inr ⟨_,_,if_pos hb⟩
   ·exact .inl (if_neg hb)
  ·by_cases hb:b=a
   ·have z':=(if_pos hb).symm.trans z
    cases z'
    subst hb;exact⟨ha,by rw[List.length_map];exact hl,vs,_,rv,ha⟩
   ·have z':=(if_neg hb).symm.trans z
    cases z'
  ·by_cases hb:b=a
   ·exact hb
   ·exact absurd (if_neg hb) z
end Sb
namespace Sb
open PySem PySem.W PySem.Calls PyProof.Rows
theorem Gq(ns:List Int):ofPy (PyData.list (ns.map PyData.int))=WData.list (ns.map WData.int):=by
 rw[←ofPys_ints];rfl
theorem request{args:List WData}(hpre:PySem.Challenge.rw_scorebook_s01_answers.pre args=true) :
  ∃ cl:List Int,args=[WData.list (cl.map WData.int)]∧PySh11.answers_asked cl=true∧cl.length≤30000∧PySem.Challenge.rw_scorebook_s01_answers.post args (.list ((PySh11.answers cl).map WData.int))=true:=by
 have hsh:WShape.hasAll [] args [.list .int]=true:=os_shapes args hpre;obtain⟨d,r,rfl,h1,h2⟩:=hasAllW_cons hsh;obtain rfl:=hasAllW_nil h2;obtain⟨xs,rfl,h3⟩:=hasW_list h1;obtain⟨ns,rfl⟩:=items_int h3;rw[←Gq]at hpre;have hs:=os_pre_isSome hpre;obtain⟨dec,least,most,items⟩:=os_dec_ints (least:=0) (most:=30000) (lo:=Int.ofNat 0) (hi:=Int.ofNat 4294967295) hs;refine⟨ns,rfl,os_pre_asked (r:=PySem.Challenge.rw_scorebook_s01_answers) hpre dec,most,?_⟩;rw[←Gq ns];exact os_post (r:=PySem.Challenge.rw_scorebook_s01_answers) dec (same_self _)
theorem QM{q:Program}{loose:List Str}{XP:(Str→Option Value)→Heap→Prop}{YP:World→Heap→Prop}{d:DefRec}{K:Params→Frag}(hdf:d.params.defaults=[])
  (hY:∀(w:World)(h:Heap),YP w h→(K w.params).In h)
  (F:∀(w:World)(mg:Str→Option Value)(fa:Addr)(h:Heap),(K w.params).In h→h.Ns mainGlobals mg→mg d.name=some (.ref fa)→∃ a:Ad,Txt (K w.params) mg a∧a.f 126=fa) :
  WalkOS q loose XP YP PySem.Challenge.rw_scorebook_s01_answers d [] (fun f vs=>PySem.call f vs):=by
 intro w s₀ s₁ mg mb G Y fa o pm cd doc dV kV ho hd hcd hD hmg hg args vals as hpre hlay hrd hwl hlo;obtain⟨cl,rfl,ask,most,post⟩:=request hpre;have KX:=hY w _ Y;obtain⟨a,T,rfl⟩:=F w mg fa _ KX G.T.g hmg
 cases hwl with
 |cons w1 w2=>
  cases w2
  cases w1 with
  |list hl hall=>
   have hints:=SV.CW cl _ hall
   refine enter_call (codeAny_mono (L8 (CX:=L2.cG) (k:=12) (fa:=a.f 126) (fd:=a.d 126) (x:="calls") (sp:=EW (K w.params) a) (Q:=fun v H'=>∃ D,v=.ref D∧H' D=some (.lst (iB (PySh11.answers cl)))) KX G.T.g G.T.b G.T.builtins G.T.nolimit hg hl hints (Nat.le_trans most (by decide)) ⟨rfl,by decide,by decide⟩
    (fun base _ _=>KY T) (T.fn.GB.b s₁ [_] KX rfl) (fun H _ hS=>⟨_,cl,rfl,hS,ask,fun H' D _ _ h=>⟨D,rfl,h⟩⟩) fun H e s' z=>z) fun r s' hq=>?_)
   ·obtain⟨⟨v,u,H',rfl,rv,⟨D,rfl,hD⟩,fD⟩,h2,h3,h4⟩:=hq;cases rv;obtain⟨z,its,n,rl,e⟩:=fD D _ hD;have hi:=L2.intsAre_of rl;have ra:ReadsAllW [] (classAt s₀.heap) s'.heap its.toArray.toList ((PySh11.answers cl).map WData.int) []:=by
     rw[←ofPys_ints];exact readsAllW_ints hi
    exact⟨.inl ⟨_,_,[D],rfl,fun _=>rfl,.list e rfl rfl ra,post,fun z=>nomatch z⟩,h2,h3,h4⟩
end Sb
namespace PySem.W.Fast
def tw12795620134135423788:=0
def tw10015939981024881014:=0
def tw6318219296054695268:=0
def tw322663015929391718:=0
def tw1948118618598736833:=0
def tw12199143734250280639:=0
def tw5744622007647805380:=0
def tw5907071748903624057:=0
def tw4114143840501056184:=0
def tw618927897728029709:=0
def tw17133252442496397547:=0
def tw12809401452741270308:=0
def tw8532804974130088496:=0
def tw11063990407320697488:=0
def tw6945984416024506333:=0
def tw17739782868861144932:=0
def tw10802195436193245893:=0
def tw5114878244630133192:=0
def tw2037061211455300825:=0
def tw6564049352699365685:=0
def tw8897026967597959308:=0
def tw4527682766035156518:=0
def tw6157139900441724250:=0
def tw5501987252686318935:=0
def tw6056387048929757373:=0
def tw3413195823762025853:=0
def tw17269865337324130422:=0
def tw13554802452130474218:=0
def tw7952330348209731214:=0
def tw11150170381792631814:=0
def tw1305679864758883715:=0
def tw4618633048553871535:=0
def tw1267324554506189343:=0
def tw14185203128334863737:=0
def tw10184345334851369952:=0
def tw7640448659093829829:=0
def tw6592083011938583005:=0
def tw9784759851554659456:=0
def tw15714427750035729784:=0
def tw5453556391884796038:=0
def tw17439272804261228224:=0
def tw8638416250834487765:=0
def tw12166888706373446994:=0
def tw9836669604830268685:=0
def tw4800812575735546510:=0
def tw4567913193591451425:=0
def tw6411678280965189648:=0
def tw14606053642729903720:=0
def tw11110571203477790987:=0
def tw1956880227759458646:=0
def tw9833307203548492223:=0
def tw2566606585573739221:=0
def tw8838493371607333305:=0
def tw9994439201243077227:=0
def tw6320216239399047954:=0
def tw12999775556200800716:=0
def tw12030907921645525850:=0
def tw14999191676387049643:=0
def tw17424961847583946383:=0
def tw5281090938769761071:=0
def tw8465516403741334966:=0
def tw4860922755141104552:=0
def tw15149922873234903985:=0
def tw2385349329921002943:=0
def tw3074541567621193125:=0
def tw14038045361229014040:=0
def tw551516178697983830:=0
def tw3920594718604220687:=0
def tw16573750291369789089:=0
def tw13946338316765619891:=0
def tw13538927610216488113:=0
def tw16711404510376983009:=0
def tw11318339782526424325:=0
def tw4921036013626343237:=0
def tw761115528713298506:=0
def tw10276245644012626336:=0
def tw963239634243973719:=0
def tw1936096247690173496:=0
def tw9968776652494590244:=0
def tw3739383020468663073:=0
def tw6987564148063085795:=0
def tw6736553045075230841:=0
def tw14901837873340084318:=0
def tw8525230399094173342:=0
def tw7864674433401036194:=0
def tw13705494558352259449:=0
def tw12845546928113772408:=0
def tw5298421378911232164:=0
def tw15553918750429611154:=0
def tw8668034039688569090:=0
def tw15133523233171706281:=0
def tw11512583065357868181:=0
def tw2161937028046984865:=0
def tw6599196219653681629:=0
def tw17342155925063668478:=0
def tw9076647080351909963:=0
def tw13130232130104748076:=0
def tw193470432604230922:=0
def tw3162691765040406601:=0
def tw10016338743983139247:=0
def tw705826664137280674:=0
def tw10728332446654060999:=0
def tw12415780820256752968:=0
def tw14937188500163419420:=0
def tw6354956948894245332:=0
def tw18005329744663507930:=0
def tw2576668247237408568:=0
def tw4215104788467909545:=0
def tw11269869565705690595:=0
def tw17078985383407090272:=0
def tw11572420142605775786:=0
def tw6150356213242863851:=0
def tw6293088594623494417:=0
def tw1820530092228651234:=0
def tw4224655387672253932:=0
def tw12954260903700469165:=0
def tw11077757408492925984:=0
def tw7752942941229415436:=0
def tw18058919201145907389:=0
def tw14797534170950911955:=0
def tw7270617238633198248:=0
def tw6310432079835133841:=0
def tw10472116615435491777:=0
def tw13267364764289959074:=0
def tw11585859230806842765:=0
def tw9600810941823000419:=0
def tw4080915407848057732:=0
def tw16529779398267941:=0
def tw9519083954668947882:=0
def tw15446320878343573585:=0
def tw3588183212967016282:=0
def tw10957850096217332827:=0
def tw10699988429776384775:=0
def tw2952176842211404095:=0
def tw13521849670999430920:=0
def tw3428799485319929137:=0
def tw18243535538838183897:=0
def tw7000749477522217926:=0
def tw4463938132466926689:=0
def tw7866129779380492798:=0
def tw14164872288088083623:=0
def tw5025905971267695991:=0
def tw5151153312998339587:=0
def tw9510588729731461588:=0
def tw4564232170410006776:=0
def tw18309328445702124012:=0
def tw17580644246109384815:=0
def tw2617216434165581344:=0
def tw2934983133210655160:=0
def tw10735669288189449922:=0
def tw17565222987260708910:=0
def tw9799672340073237658:=0
def tw2417578370407171381:=0
def tw727363432719130128:=0
def tw513238762548819341:=0
def tw15433437499979117762:=0
def tw7484989700238257163:=0
def tw1281611298885535342:=0
def tw14975140180742941553:=0
def tw1205392552871666954:=0
def tw13495797213603090516:=0
def tw12063553556020337465:=0
def tw11960122472891007350:=0
def tw12127121120878910839:=0
def tw4835945683028029366:=0
def tw15523321692660241294:=0
def tw9600099738282574747:=0
def tw7949954446024880635:=0
def tw7097293170430340646:=0
def tw11089786547261910483:=0
def tw16935444906490996493:=0
def tw17573108831026214215:=0
def tw109768818948550713:=0
def tw14963740937419045117:=0
def tw15644493529509107228:=0
def tw10519971513950570142:=0
def tw7897659482157982103:=0
def tw2787230665483627378:=0
def tw15360972073266743742:=0
def tw9282296786182159602:=0
def tw1344204349346091392:=0
def tw12506302160029282953:=0
def tw8624500310833178828:=0
def tw5639748280645019201:=0
def tw8993612011067030076:=0
def tw4045488866275693660:=0
def tw14285866044617603546:=0
def tw5514383546622603930:=0
def tw12889497473874168725:=0
def tw11670302823919825544:=0
def tw1642618342180990751:=0
def tw4423887597368174003:=0
def tw1831803547599962150:=0
def tw1042989062413801483:=0
def tw17999687593629814591:=0
def tw9842293603188099898:=0
def tw258400445092723201:=0
def tw14159406905552524900:=0
def tw7853731682058718359:=0
def tw6282616264128140518:=0
def tw4659623121781215721:=0
def tw12370916885800798021:=0
def tw17527686132639327814:=0
def tw15441200807649559241:=0
def tw11917475423230061879:=0
def tw17622424910327768506:=0
def tw9180010339166801801:=0
def tw4036504459035092939:=0
def tw3387489908178493378:=0
def tw13721942160920950492:=0
def tw6076449295423434196:=0
def tw17018650288297992702:=0
def tw8366085507954162312:=0
def tw3575247363177951029:=0
def tw2737760309296674037:=0
def tw4512666299523625341:=0
def tw11899922920032966770:=0
def tw16332680472430126235:=0
def tw7482980036689737494:=0
def tw10932531104861795218:=0
def tw5367332829817335834:=0
def tw2773954804063908113:=0
def tw15937621334362670393:=0
def tw16341102452730927163:=0
def tw9337283970719102818:=0
def tw8883002618619472408:=0
def tw4441657932341034788:=0
def tw2705516749250915020:=0
def tw17285242234028831617:=0
def tw2681115303213543147:=0
def tw2219335400723990273:=0
def tw18048589866846534329:=0
def tw18208547861329237103:=0
def tw5982645866229367565:=0
def tw16313387513124518304:=0
def tw10309858101688712663:=0
def tw6446877743530878585:=0
def tw7068002997895133774:=0
def tw9600222177277925976:=0
def tw3734450694978159082:=0
def tw10893230602219030556:=0
def tw17643848734026805831:=0
def tw6683250580845140371:=0
def tw15424661895381860827:=0
def tw9637434046449051585:=0
def tw13726406388354466276:=0
def tw14651160992839543462:=0
def tw8524136388432218776:=0
def tw1437853643588748816:=0
def tw16918556189515892533:=0
def tw2351245105275742060:=0
def tw12000712382956031546:=0
def tw14349138549991447678:=0
def tw9361341478684899421:=0
def tw5791540446065947588:=0
def tw4047726757282547429:=0
def tw14609984751128903254:=0
def tw7631010872211226346:=0
def tw6884016650960788478:=0
def tw1491366893223792577:=0
def tw1823910970606955017:=0
def tw852019226247432321:=0
def tw5230620486697657241:=0
def tw1105635598582435652:=0
def tw13500862669699937683:=0
def tw4391988780261424232:=0
def tw11031730392565745001:=0
def tw4465132408911918657:=0
def tw17435198417141794937:=0
def tw529117241964555413:=0
def tw2889607435486648913:=0
def tw3878001578035981946:=0
def tw12732464503167201770:=0
def tw34273265954947015:=0
def tw1072616790068975446:=0
def tw14113900202706691057:=0
def tw2498975940282589369:=0
def tw395385927692399015:=0
def tw7346807116226574820:=0
def tw8464395329768081206:=0
def tw14813622303656676808:=0
def tw12558670332220781996:=0
def tw16070042025262953945:=0
def tw11324391408248338231:=0
def tw6461476217621694129:=0
def tw7423915203949220260:=0
def tw14155512539172676411:=0
def tw2665893700330351564:=0
def tw12722186288896926618:=0
def tw7963346315970602567:=0
def tw14889062850472631599:=0
def tw10729436287519460833:=0
def tw4397990804845391088:=0
def tw13134615266463434528:=0
def tw3206764795894661874:=0
def tw13768319128093080671:=0
def tw2225280438834768181:=0
def tw5205946217424708706:=0
def tw17558425744043433261:=0
def tw12549443133011361506:=0
def tw13796214795182479049:=0
def tw17592532684334482388:=0
def tw2158617510191515718:=0
def tw3775076067063044057:=0
def tw15922961191928075858:=0
def tw290115877830998154:=0
def tw8880624698353385702:=0
def tw13086525942415587503:=0
def tw2258922352669487812:=0
def tw18294031754544207226:=0
def tw855700078740061507:=0
def tw3348392195878874592:=0
def tw18213473481709808257:=0
def tw6773417878124255961:=0
def tw6755045845830107958:=0
def tw9423507569695220615:=0
def tw9902264271586581147:=0
def tw7421344941265302939:=0
def tw9083912904116860555:=0
def tw8074772540987505711:=0
def tw6469336383276062928:=0
def tw12426278075650265577:=0
def tw3456979600153522535:=0
def tw6730500683291954189:=0
def tw16987097028541178378:=0
def tw2843992696970977977:=0
def tw6810979019791530860:=0
def tw10665850604579804283:=0
def tw13886242260564913381:=0
def tw3378713332450935972:=0
def tw15546176231217030160:=0
def tw11310084545481967549:=0
def tw11703252199237179441:=0
def tw14211348944944450126:=0
def tw16288065528806191737:=0
def tw2372606510225781911:=0
def tw7593912477077723358:=0
def tw16078744468978482743:=0
def tw13580779647948339393:=0
def tw6561917474248177689:=0
def tw9290631113102783183:=0
end PySem.W.Fast
open PySem PySem.W PyProof.Rows
set_option maxRecDepth 100000 in
set_option maxHeartbeats 0 in
theorem PySem.Challenge.cw_scorebook_s01_answers_holds : PySem.Challenge.rw_scorebook_s01_answers.Holds := by
 w_on;k_headS
 (case hw=>exact⟨[.list [.int 0,.int 1,.int 0,.int 6,.int 0,.int 0]],by decide +kernel,by decide +kernel⟩)
 k_fillS
 refine Sb.QM rfl (fun w h Y=>PySem.W.kIn_of Y) ?F
 case F=>
  intro w mg fa h KX G hmg;have T:Sb.Txt (L2.SK KX) mg (Sb.ad (L2.SK KX)):=by
   dsimp only[L2.SK];refine Sb.P7 KX G ?_ ?_ ?_ ?_ ?_ ?_ ?_ ?_ ?_ ?_ ?_
   all_goals constructor
   all_goals first
    | (refine' Sb.Ri ?a ?b ?c ?d ?e;(case a=>k_is);(case b=>k_is);(case c=>k_is);(case d=>k_is);(case e=>k_is))
    | (refine' Sb.Q2 ?a;(case a=>k_is))
    | (refine' Sb.Rq ?a ?b ?c ?d;(case a=>k_is);(case b=>k_is);(case c=>k_is);(case d=>k_is))
    | (refine' Sb.Rn ?a;(case a=>k_is))
    | (refine' Sb.Rw ?a;(case a=>k_is))
    | (refine' Sb.RA ?a ?b ?c ?d ?e ?f ?g;(case a=>k_is);(case b=>k_is);(case c=>k_is);(case d=>k_is);(case e=>k_is);(case f=>k_is);(case g=>k_is))
    | (refine' Sb.RH ?l ?s ?v;(case l=>k_is);(case s=>decide);(case v=>repeat' (first|exact .nil|exact rfl|exact⟨_,rfl⟩|refine .cons ?_ ?_)))
    | (refine' Sb.Rg ?a;(case a=>k_is))
  refine⟨_,T,?_⟩;have e0:=hmg.symm.trans T.fn.xN;cases e0;rfl
