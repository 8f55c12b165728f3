import PyProof.Rows.All
import Wide.All
import OpenK.AllK
import Wide.FinOn
import PyProof.EqAt
import PyProof.EqKinds
import PyProof.TupleCall
import KE.BitLaws
import Open.SpecLaws
import KE.OsHead
import KE.OsGo
import PyProof.ListRange
import PySem.Challenge.RW_backchains_s01_answers
set_option Elab.async false
set_option linter.all false
set_option maxRecDepth 100000
set_option bootstrap.genMatcherCode false
local macro_rules | `(tactic| omega) => `(tactic| lia)
namespace L2
open PySem PySem.Spec PyProof.Rows
noncomputable abbrev Key:=Sum Int Str
noncomputable def Js:Key→Value→Bool
 | .inl k,v=>Value.isInt k v
 | .inr x,v=>Value.isStrOf x v
noncomputable def MK (w:World):Key→Int
 | .inl k=>hashInt k
 | .inr x=>hashStr w x
theorem cw:∀{k:Key} {v:Value},Js k v=true→(∃i t,k=Sum.inl i∧v=Value.int i t)∨(∃x t,k=Sum.inr x∧v=Value.str x t)
 | .inl i,v,h=>by
  obtain⟨t,e⟩:=Value.isInt_shape (k:=i) (v:=v) h
  exact .inl ⟨i,t,rfl,e⟩
 | .inr x,v,h=>by
  obtain⟨t,e⟩:=Value.isStrOf_shape (x:=x) (v:=v) h
  exact .inr ⟨x,t,rfl,e⟩
theorem Ko (a b:Int):decide ((Sum.inl a:Key)=Sum.inl b)=(a == b):=by
 by_cases e:a=b
 ·subst e; simp
 ·have h:¬(Sum.inl a:Key)=Sum.inl b:=fun q=>e (Sum.inl.inj q)
  rw [decide_eq_false h]
  exact(beq_eq_false_iff_ne.mpr e).symm
theorem Kl (a b:Str):decide ((Sum.inr a:Key)=Sum.inr b)=decide (a=b):=by
 by_cases e:a=b
 ·subst e; simp
 ·have h:¬(Sum.inr a:Key)=Sum.inr b:=fun q=>e (Sum.inr.inj q)
  rw [decide_eq_false h,decide_eq_false e]
theorem Kn (a:Int) (b:Str):decide ((Sum.inl a:Key)=Sum.inr b)=false:=decide_eq_false (fun q=>nomatch q)
theorem Km (a:Str) (b:Int):decide ((Sum.inr a:Key)=Sum.inl b)=false:=decide_eq_false (fun q=>nomatch q)
noncomputable def wS (prog:Program) (w:World):PySem.KeyKind prog w Key where
 is:=Js
 hash:=MK w
 inj:=fun v a b ha hb=>by
  rcases cw ha with⟨i,t,rfl,rfl⟩ | ⟨x,t,rfl,rfl⟩
  ·rcases cw hb with⟨j,u,rfl,e⟩ | ⟨y,u,rfl,e⟩
   ·injection e with e1 _; rw [e1]
   ·exact nomatch e
  ·rcases cw hb with⟨j,u,rfl,e⟩ | ⟨y,u,rfl,e⟩
   ·exact nomatch e
   ·injection e with e1 _; rw [e1]
 byValue:=fun k v h=>by
  rcases cw h with⟨i,t,rfl,rfl⟩ | ⟨x,t,rfl,rfl⟩ <;> rfl
 pyHash:=fun hv h=>by
  rcases cw hv with⟨i,t,rfl,rfl⟩ | ⟨x,t,rfl,rfl⟩
  ·exact wpAny_pyHash_int h
  ·exact wpAny_pyHash_str h
 eqBool:=fun hu hv h=>by
  rcases cw hu with⟨i,t,rfl,rfl⟩ | ⟨x,t,rfl,rfl⟩
  ·rcases cw hv with⟨j,u,rfl,rfl⟩ | ⟨y,u,rfl,rfl⟩
   ·rw [Ko] at h; exact wpAny_eqBool_int h
   ·rw [Kn] at h; exact SeqAt.EqAt.int_str i t y u _ _ _ _ h
  ·rcases cw hv with⟨j,u,rfl,rfl⟩ | ⟨y,u,rfl,rfl⟩
   ·rw [Km] at h; exact SeqAt.EqAt.str_int x t j u _ _ _ _ h
   ·rw [Kl] at h; exact wpAny_eqBool_str h
 «strs»:=fun k x t v h=>by
  rcases cw h with⟨i,u,rfl,e⟩ | ⟨y,u,rfl,e⟩
  ·exact nomatch e
  ·injection e with e1 _
   subst e1
   cases v <;> rfl
end L2
namespace L2
open PySem PySem.Spec PyProof.Rows
inductive V where
 | non | bl (b:Bool) | int (i:Int) | str (x:Str) | byt (b:Array UInt8) | flt (b:UInt64) | ref (a:Addr) | ty (n:String)
 deriving DecidableEq
noncomputable def RelV:V→Value→Prop
 | .non,u=>u=Value.none
 | .bl b,u=>u=Value.bool b
 | .int i,u=>∃t,u=Value.int i t
 | .str x,u=>∃t,u=Value.str x t
 | .byt b,u=>∃t,u=Value.bytes b t
 | .flt b,u=>∃t,u=Value.float b t
 | .ref a,u=>u=Value.ref a
 | .ty n,u=>u=Value.type n
noncomputable abbrev Vals:List V→List Value→Prop:=Paired RelV
theorem Vals.length {xs:List V} {us:List Value} (r:Vals xs us):xs.length=us.length:=Paired.length r
theorem Vals.get:∀{xs:List V} {us:List Value} {i:Nat} {x:V},Vals xs us→xs[i]?= some x→∃u,us[i]?= some u∧RelV x u
 | _,_,_,_,.nil,e=>by simp at e
 | _,_,0,_,.cons r _,e=>by simp at e; subst e; exact⟨_,rfl,r⟩
 | _,_,i+1,x,.cons _ t,e=>by
  obtain⟨u,h1,h2⟩:=Vals.get (i:=i) (x:=x) t (by simpa using e)
  exact⟨u,by simpa using h1,h2⟩
theorem Vals.set {x:V} {u:Value} (r:RelV x u):∀{xs:List V} {us:List Value} (i:Nat),Vals xs us→Vals (xs.set i x) (us.set i u)
 | _,_,_,.nil=>.nil
 | _,_,0,.cons _ t=>.cons r t
 | _,_,i+1,.cons q t=>.cons q (Vals.set r i t)
theorem Vals.append:∀{xs ys:List V} {us ws:List Value},Vals xs us→Vals ys ws→Vals (xs++ys) (us++ws)
 | _,_,_,_,.nil,s=>s
 | _,_,_,_,.cons r t,s=>.cons r (Vals.append t s)
theorem Vals.take:∀{xs:List V} {us:List Value} (n:Nat),Vals xs us→Vals (xs.take n) (us.take n)
 | _,_,0,_=>.nil
 | _,_,_+1,.nil=>.nil
 | _,_,n+1,.cons r t=>.cons r (Vals.take n t)
theorem Vals.drop:∀{xs:List V} {us:List Value} (n:Nat),Vals xs us→Vals (xs.drop n) (us.drop n)
 | _,_,0,r=>r
 | _,_,_+1,.nil=>.nil
 | _,_,n+1,.cons _ t=>Vals.drop n t
noncomputable def RelO:Option V→Option Value→Prop
 | some v,some u=>RelV v u
 | none,none=>True
 | _,_=>False
noncomputable def KV {κ:Type}:List (κ×V)→List (κ×Value)→Prop:=Paired fun (p:κ×V) (q:κ×Value)=>p.1=q.1∧RelV p.2 q.2
noncomputable def kV:Key→V
 | .inl i=>.int i
 | .inr x=>.str x
inductive HO where
 | lst (xs:List V)
 | tup (xs:List V)
 | dK (kvs:List (Key×V)) | dT (kvs:List (List Key×V))
 | set (S:Int→Bool) (n:Nat)
 | ins (C dx:Addr) (fs:List (Str×V))
 | own (x:Addr)
 | xd (fs:List (Str×V))
 | met (f x:Addr)
 | rng (lo hi:Int)
 | frz (o:Obj) (u:HO)
 | tbl (ps:Array Value)
 | ext (φ:Heap→Prop)
noncomputable abbrev Hp:=Addr→Option HO
noncomputable def upd (H:Hp) (a:Addr) (o:HO):Hp:=fun b=>if b=a then some o else H b
theorem af {H:Hp} {a:Addr} {o:HO}:upd H a o a=some o:=by unfold upd; rw [if_pos rfl]
theorem aq {H:Hp} {a b:Addr} {o:HO} (h:b≠a):upd H a o b=H b:=by unfold upd; rw [if_neg h]
theorem zq {H:Hp} {a b:Addr} {o u:HO} (h:H a=some o) (h':H b=some u) (d:o≠u):a≠b:=by
 intro e; subst e; rw [h] at h'; exact d (Option.some.inj h')
theorem az {H:Hp} {a b:Addr} {o:HO} (h:H a=some o) (h':H b=none):a≠b:=by
 intro e; subst e; rw [h] at h'; cases h'
section
variable (P:Program) (w:World)
noncomputable def ObjOk (H:Hp) (h:Heap) (a:Addr):HO→Prop
 | .lst xs=>xs.length≤sizeLine∧∃(its:List Value) (n:Nat),Vals xs its∧h.get? a=some {cls:=.type "list",data:=.seq its.toArray n}
 | .tup xs=>xs.length≤sizeLine∧∃its:List Value,Vals xs its∧IsTup h a its.toArray
 | .dK kvs=>kvs.length≤sizeLine∧(a == sysModules)=false∧∃vs,KV kvs vs∧h.DictOf (wS P w) a vs
 | .dT kvs=>kvs.length≤sizeLine∧(a == sysModules)=false∧∃xs:List (List Key×Addr×Value),
   Paired (fun (p:List Key×V) (q:List Key×Addr×Value)=>p.1=q.1∧H q.2.1=some (.tup (p.1.map kV))∧RelV p.2 q.2.2) kvs xs∧
   ∃o es ep,h.get? a=some o∧o.ExactDict∧o.data=.dict es ep∧es.toList=xs.map (entryOfKey (tupleKind (wS P w)))∧(xs.map (·.1)).Nodup
 | .set S n=>h.SetOf (intKind P w) a S n
 | .ins C dx fs=>H dx=some (.own a)∧fs.length≤1000∧dx≠a∧h.get? a=some (PySem.W.instObj C dx)∧
   ∃mA,h.Ns1 dx mA∧(∀f,RelO (fs.lookup f) (mA f))∧PySem.Within mA (fs.map (·.1))
 | .own _=>∃o,h.get? a=some o
 | .xd fs=>∃mA,h.Ns1 a mA∧∀f,RelO (fs.lookup f) (mA f)
 | .rng lo hi=>∃t u v,h.get? a=some {cls:=.type "range",data:=.fields #[.int lo t,.int hi u,.int 1 v]}
 | .frz o u=>h.get? a=some o∧ObjOk H h a u
 | .tbl ps=>h.get? a=some {cls:=.none,data:=.fields ps}
 | .met f x=>h.get? a=some (PySem.W.methodObj (.ref f) (.ref x))
 | .ext φ=>φ h∧(∃o,h.get? a=some o)∧∀h1 h2:Heap,φ h1→(∀o,h1.get? a=some o→h2.get? a=some o)→φ h2
noncomputable def HOk (H:Hp) (h:Heap):Prop:=∀a o,H a=some o→ObjOk P w H h a o
end
section
variable {P:Program} {w:World} {H H':Hp} {h h':Heap} {a:Addr} {o:HO}
theorem ObjOk.lt (x:ObjOk P w H h a o):a < h.objs.size:=by
 cases o with
 | lst xs=>obtain⟨_,_,_,_,e⟩:=x; exact Heap.lt_size e
 | tup xs=>obtain⟨_,_,_,p⟩:=x; exact p.lt
 | dK kvs=>obtain⟨_,_,_,_,o,_,_,e,_⟩:=x; exact Heap.lt_size e
 | dT kvs=>obtain⟨_,_,_,_,o,_,_,e,_⟩:=x; exact Heap.lt_size e
 | set S n=>obtain⟨o,_,_,_,e,_⟩:=x; exact Heap.lt_size e
 | ins C dx fs=>obtain⟨_,_,_,e,_⟩:=x; exact Heap.lt_size e
 | own y=>obtain⟨_,e⟩:=x; exact Heap.lt_size e
 | xd fs=>obtain⟨_,⟨_,_,_,e,_⟩,_⟩:=x; exact Heap.lt_size e
 | rng lo hi=>obtain⟨_,_,_,e⟩:=x; exact Heap.lt_size e
 | frz ob u=>obtain⟨e,_⟩:=x; exact Heap.lt_size e
 | tbl ps=>exact Heap.lt_size (show h.get? a=some _ from x)
 | met f y=>exact Heap.lt_size (show h.get? a=some _ from x)
 | ext φ=>obtain⟨_,⟨_,e⟩,_⟩:=x; exact Heap.lt_size e
theorem Paired.mapP {α β:Type} {F G:α→β→Prop}:∀{l₁:List α} {l₂:List β},Paired F l₁ l₂→(∀a b,F a b→G a b)→Paired G l₁ l₂
 | _,_,.nil,_=>.nil
 | _,_,.cons r t,f=>.cons (f _ _ r) (Paired.mapP t f)
theorem ObjOk.stay (x:ObjOk P w H h a o) (k:∀b u,(b=a∨H b=some (.own a))→h.get? b=some u→h'.get? b=some u)
  (ho:∀b,H b=some (.own a)→H' b=some (.own a)) (ht:∀b xs,H b=some (.tup xs)→H' b=some (.tup xs)):ObjOk P w H' h' a o:=by
 induction o with
 | lst xs=>obtain⟨z,its,n,r,e⟩:=x; exact⟨z,its,n,r,k _ _ (.inl rfl) e⟩
 | tup xs=>obtain⟨z,its,r,ob,e,c⟩:=x; exact⟨z,its,r,ob,k _ _ (.inl rfl) e,c⟩
 | dK kvs=>obtain⟨z,y,vs,r,ob,es,ep,e,c⟩:=x; exact⟨z,y,vs,r,ob,es,ep,k _ _ (.inl rfl) e,c⟩
 | dT kvs=>
  obtain⟨z,y,xs,r,ob,es,ep,e,c⟩:=x
  exact⟨z,y,xs,Paired.mapP r fun p q z=>⟨z.1,ht _ _ z.2.1,z.2.2⟩,ob,es,ep,k _ _ (.inl rfl) e,c⟩
 | set S n=>obtain⟨ob,es,ep,t,e,c⟩:=x; exact⟨ob,es,ep,t,k _ _ (.inl rfl) e,c⟩
 | ins C dx fs=>
  obtain⟨d,z,ne,e,mA,⟨od,es,ep,e2,c⟩,r⟩:=x
  exact⟨ho _ d,z,ne,k _ _ (.inl rfl) e,mA,⟨od,es,ep,k _ _ (.inr d) e2,c⟩,r⟩
 | own y=>obtain⟨ob,e⟩:=x; exact⟨ob,k _ _ (.inl rfl) e⟩
 | xd fs=>obtain⟨mA,⟨od,es,ep,e,c⟩,r⟩:=x; exact⟨mA,⟨od,es,ep,k _ _ (.inl rfl) e,c⟩,r⟩
 | rng lo hi=>obtain⟨t,u,v,e⟩:=x; exact⟨t,u,v,k _ _ (.inl rfl) e⟩
 | frz ob u ih=>obtain⟨e,q⟩:=x; exact⟨k _ _ (.inl rfl) e,ih q⟩
 | tbl ps=>
  have e:h.get? a=some {cls:=.none,data:=.fields ps}:=x
  show h'.get? a=some {cls:=.none,data:=.fields ps}
  exact k a _ (.inl rfl) e
 | met f y=>
  have e:h.get? a=some (PySem.W.methodObj (.ref f) (.ref y)):=x
  show h'.get? a=some (PySem.W.methodObj (.ref f) (.ref y))
  exact k a _ (.inl rfl) e
 | ext φ=>obtain⟨p,⟨o,e⟩,st⟩:=x; exact⟨st _ _ p fun o q=>k _ _ (.inl rfl) q,⟨o,k _ _ (.inl rfl) e⟩,st⟩
theorem HOk.lt (x:HOk P w H h) (e:H a=some o):a < h.objs.size:=(x a o e).lt
theorem HOk.fresh (x:HOk P w H h) (e:h.objs.size≤a):H a=none:=by
 cases q:H a with
 | none=>rfl
 | some u=>exact absurd (Nat.lt_of_lt_of_le (x.lt q) e) (Nat.lt_irrefl _)
theorem HOk.kept (x:HOk P w H h) (k:∀b u,h.get? b=some u→h'.get? b=some u):HOk P w H h':=fun a o e=>
 (x a o e).stay (fun b u _ q=>k b u q) (fun _ q=>q) fun _ _ q=>q
theorem HOk.laid (x:HOk P w H h) (k:∀b u,h.get? b=some u→h'.get? b=some u) (hp:h.objs.size≤a) (new:ObjOk P w (upd H a o) h' a o):HOk P w (upd H a o) h':=fun b u e=>by
 have hn:=x.fresh hp
 by_cases hb:b=a
 ·subst hb; rw [af] at e; cases e; exact new
 ·rw [aq hb] at e
  exact(x b u e).stay (fun c v _ q=>k c v q) (fun c q=>by rw [aq (az q hn)]; exact q) fun c xs q=>by rw [aq (az q hn)]; exact q
end
noncomputable def Rd (H:Hp) (a:Addr) (u:HO):Prop:=H a=some u∨∃o,H a=some (.frz o u)
theorem Rd.ok {P:Program} {w:World} {H:Hp} {h:Heap} {a:Addr} {u:HO} (r:Rd H a u) (x:HOk P w H h):ObjOk P w H h a u:=by
 rcases r with r | ⟨o,r⟩
 ·exact x a u r
 ·obtain⟨_,q⟩:=x a _ r
  exact q
noncomputable def Mut:Option HO→Prop
 | some (.lst _)=>True
 | some (.dK _)=>True
 | some (.dT _)=>True
 | some (.set _ _)=>True
 | some (.ins _ _ _)=>True
 | some (.ext _)=>True
 | _=>False
section
variable {P:Program} {w:World} {H:Hp} {h h':Heap} {x e:Addr} {o':HO}
theorem HOk.write (ok:HOk P w H h) (mu:Mut (H x)) (he:e=x∨H e=some (.own x)) (k:∀b u,b≠e→h.get? b=some u→h'.get? b=some u) (heo:∃u,h'.get? e=some u)
  (new:ObjOk P w (upd H x o') h' x o'):HOk P w (upd H x o') h':=fun b u q=>by
 have nown:∀c y,H c=some (.own y)→c≠x:=fun c y r z=>by subst z; rw [r] at mu; exact mu
 have ntup:∀c xs,H c=some (.tup xs)→c≠x:=fun c xs r z=>by subst z; rw [r] at mu; exact mu
 by_cases hb:b=x
 ·subst hb; rw [af] at q; cases q; exact new
 ·rw [aq hb] at q
  by_cases hbe:b=e
  ·have q':H b=some (.own x):=by
    rcases he with z | z
    ·exact absurd (hbe.trans z) hb
    ·rw [hbe]; exact z
   rw [q] at q'; cases q'
   obtain⟨v,hv⟩:=heo
   exact⟨v,by rw [hbe]; exact hv⟩
  ·refine(ok b u q).stay (fun c v hc r=>k c v ?_ r) (fun c r=>by rw [aq (nown c b r)]; exact r) fun c xs r=>by rw [aq (ntup c xs r)]; exact r
   rcases hc with rfl | hc
   ·exact hbe
   ·rintro rfl
    rcases he with z | z
    ·exact nown c b hc z
    ·rw [hc] at z; cases z; exact hb rfl
end
structure Un (fs ex:List Addr) (H H':Hp) (h h':Heap):Prop where
 keep:∀b o,h.get? b=some o→H b=none→b∉fs→b∉ex→h'.get? b=some o
 slot:∀b o,h.get? b=some o→H b=none→b∈fs→b∉ex→∃sl,h'.get? b=some {o with slots:=sl}
 free:∀b o,h.get? b=some o→H b=none→b∉ex→H' b=none
 there:∀b o,h.get? b=some o→b∉ex→∃o',h'.get? b=some o'
 tups:∀b xs,H b=some (.tup xs)→H' b=some (.tup xs)
 frzs:∀b o u,H b=some (.frz o u)→H' b=some (.frz o u)
 tbls:∀b ps,H b=some (.tbl ps)→∃more,H' b=some (.tbl (ps++more))
section
variable {fs fs' ex ex':List Addr} {H H1 H2:Hp} {h h1 h2 h':Heap} {a x e:Addr} {o:HO}
theorem Un.any (u:Un fs ex H H1 h h1) {b:Addr} {ob:Obj} (q:h.get? b=some ob) (n:H b=none) (hx:b∉ex):∃sl,h1.get? b=some {ob with slots:=sl}:=by
 by_cases hb:b∈fs
 ·exact u.slot b ob q n hb hx
 ·exact⟨ob.slots,u.keep b ob q n hb hx⟩
theorem Un.kept (k:∀b u,h.get? b=some u→h'.get? b=some u):Un fs ex H H h h':=
 ⟨fun b ob q _ _ _=>k b ob q,fun b ob q _ _ _=>⟨ob.slots,k b ob q⟩,fun _ _ _ n _=>n,fun b ob q _=>⟨ob,k b ob q⟩,fun _ _ q=>q,fun _ _ _ q=>q,fun _ ps q=>⟨#[],by rw [q]; simp⟩⟩
theorem Un.refl:Un fs ex H H h h:=Un.kept fun _ _ q=>q
theorem Un.laid (k:∀b u,h.get? b=some u→h'.get? b=some u) (hp:h.objs.size≤a) (hn:H a=none):Un fs ex H (upd H a o) h h' where
 keep:=fun b u q _ _ _=>k b u q
 slot:=fun b u q _ _ _=>⟨u.slots,k b u q⟩
 free:=fun b u q n _=>by rw [aq (Nat.ne_of_lt (Nat.lt_of_lt_of_le (Heap.lt_size q) hp))]; exact n
 there:=fun b u q _=>⟨u,k b u q⟩
 tups:=fun b xs q=>by rw [aq (az q hn)]; exact q
 frzs:=fun b u xs q=>by rw [aq (az q hn)]; exact q
 tbls:=fun b ps q=>⟨#[],by rw [aq (az q hn),q]; simp⟩
theorem Un.write (mu:Mut (H x)) (he:e=x∨H e=some (.own x)) (k:∀b u,b≠e→h.get? b=some u→h'.get? b=some u) (heo:∃u,h'.get? e=some u):Un fs ex H (upd H x o) h h':=by
 have hx:∀b,H b=none→b≠x:=fun b n z=>by subst z; rw [n] at mu; exact mu
 have hb:∀b,H b=none→b≠e:=fun b n z=>by
  subst z
  rcases he with r | r
  ·exact hx b n r
  ·rw [n] at r; cases r
 have hm:∀b u,H b=some u→¬Mut (some u)→b≠x:=fun b u q nm z=>by subst z; rw [q] at mu; exact nm mu
 refine⟨fun b u q n _ _=>k b u (hb b n) q,fun b u q n _ _=>⟨u.slots,k b u (hb b n) q⟩,fun b u q n _=>by rw [aq (hx b n)]; exact n,fun b u q _=>?_,
  fun b xs q=>by rw [aq (hm b _ q fun z=>z)]; exact q,fun b u xs q=>by rw [aq (hm b _ q fun z=>z)]; exact q,fun b ps q=>⟨#[],by rw [aq (hm b _ q fun z=>z),q]; simp⟩⟩
 by_cases hbe:b=e
 ·subst hbe; exact heo
 ·exact⟨u,k b u hbe q⟩
end
noncomputable def trk (h:Heap) (H:Hp):List Addr:=(List.range h.objs.size).filter fun a=>(H a).isSome
noncomputable def uG (h:Heap) (H:Hp):Heap:=PySem.W.hideAll h (trk h H)
theorem EJ (h:Heap) (H:Hp):(uG h H).objs.size=h.objs.size:=PySem.W.hideAll_size _ _
theorem Gy {h:Heap} {H:Hp} {b:Addr} {o:Obj} (e:h.get? b=some o) (n:H b=none):(uG h H).get? b=some o:=
 PySem.W.hideAll_get _ e fun hm=>by
  have q:(H b).isSome=true:=(List.mem_filter.mp hm).2
  rw [n] at q; simp at q
theorem Ii {h:Heap} {H:Hp} {b:Addr} {o:Obj} (e:(uG h H).get? b=some o):h.get? b=some o∧H b=none:=by
 have e':h.get? b=some o:=PySem.W.of_hideAll (trk h H) e
 refine⟨e',?_⟩
 cases q:H b with
 | none=>rfl
 | some x=>
  have hm:b∈trk h H:=List.mem_filter.mpr ⟨List.mem_range.mpr (Heap.lt_size e'),by simp [q]⟩
  have z:(uG h H).get? b=none:=PySem.W.hideAll_none (trk h H) hm
  rw [z] at e; cases e
end L2
namespace L2
open PySem PySem.Spec PyProof.Rows
structure Mod (K:PySem.W.Frag) (mg:Str→Option Value) (base:Heap):Prop where
 kin:K.In base
 glob:base.Ns mainGlobals mg
 blt:∃mb,base.Ns builtinsNs mb∧∀x:Str,x≠"__name__"→mb x=bootBuiltins x
 nolimit:base.NoLimit
structure Cx where
 prog:Program
 w:World
 K:PySem.W.Frag
 mg:Str→Option Value
 base:Heap
 A:Around
 N:List Str
 s_0:Shared
 H_0:Hp
 env:Env
 outer:List Env
 stack:List Env
 ex:List Addr
 fn:Str→Bool
 calm:Bool
 pn:List (Addr×Obj)
 xe:Value→Shared→Prop
noncomputable def frs (l:List Env):List Addr:=l.filterMap (·.frame)
noncomputable abbrev Cx.fs (X:Cx):List Addr:=frs X.outer
noncomputable def Vis (sc:Scope) (x:Str):Prop:=sc.names.lookup x=some .local∨sc.names.lookup x=some .cell∨sc.names.lookup x=some .free
noncomputable def Loc (sc:Scope) (x:Str):Prop:=sc.names.lookup x=some .local∨sc.names.lookup x=some .cell
noncomputable def MZ (env:Env) (h:Heap) (m:Str→Option Value) (x:Str) (u:Value):Prop:=
 (env.kindOf x=some .local∧m x=some u)∨((env.kindOf x=some .cell∨env.kindOf x=some .free)∧∃c,env.cells.lookup x=some c∧h.IsCell c (some u))
structure Cx.Ok (X:Cx):Prop where
 mod:Mod X.K X.mg X.base
 kind:X.env.scope.kind=.function
 glob:X.env.globals=mainGlobals
 blt:X.env.builtins=builtinsNs
 above:X.s_0.heap.objs.size≤X.env.locals
 inj:∀x y c,X.env.cells.lookup x=some c→X.env.cells.lookup y=some c→x=y
 has:∀x,(X.env.kindOf x=some .cell∨X.env.kindOf x=some .free)→∃c,X.env.cells.lookup x=some c
 cab:∀x c,X.fn x=true→X.env.cells.lookup x=some c→X.s_0.heap.objs.size≤c
 hd:X.calm=true→X.A.handled=none
 frames:X.A.frames=some X.stack
 stk:X.stack=X.outer∨(X.stack=X.env::X.outer∧X.env.frame=some X.env.locals)
 exf:∀b∈X.ex,b≠X.env.locals∧∀x c,X.env.cells.lookup x=some c→c≠b
 bs:∀b o,X.base.get? b=some o→X.s_0.heap.get? b=some o∧X.H_0 b=none
 bsz:X.base.objs.size≤X.s_0.heap.objs.size
 noex:∀b o,X.base.get? b=some o→b∉X.ex
 exfs:∀b∈X.ex,b∉X.fs
 funs:X.s_0.heap.FunFrames X.base X.outer
 frf:∀b∈X.fs,X.H_0 b=none
structure Inv (X:Cx) (pins:List (Addr×Obj)) (σ:List (Option V)) (H:Hp) (s:Shared):Prop where
 ok:X.Ok
 os:s.os=X.s_0.os
 bare:AllBare s.gens
 base:Un X.fs X.ex X.H_0 H X.s_0.heap s.heap
 loc:∃m,s.heap.Ns X.env.locals m∧∀(i:Nat) (x:Str) (v:V),X.N[i]?= some x→σ[i]?= some (some v)→Vis X.env.scope x→∃u,RelV v u∧MZ X.env s.heap m x u
 cell:∀x c,X.env.cells.lookup x=some c→∃v,s.heap.IsCell c v
 free:H X.env.locals=none
 freeC:∀x c,X.env.cells.lookup x=some c→H c=none
 pin:∀p∈X.pn++pins,s.heap.get? p.1=some p.2∧H p.1=none∧p.1≠X.env.locals∧p.1∉X.fs∧∀v,p.2.data≠.cell v
 hok:HOk X.prog X.w H s.heap
 len:σ.length=X.N.length
section
variable {X:Cx} {pins:List (Addr×Obj)} {σ:List (Option V)} {H H':Hp} {s:Shared} {h':Heap}
theorem Cx.Ok.nofr (ok:X.Ok) {b:Addr} {o:Obj} (e:X.base.get? b=some o):b∉X.fs:=fun hb=>by
 have:=(ok.funs.mem hb).1
 rw [e] at this; cases this
theorem Inv.bs (I:Inv X pins σ H s):∀b o,X.base.get? b=some o→s.heap.get? b=some o∧H b=none:=fun b o e=>
 ⟨I.base.keep b o (I.ok.bs b o e).1 (I.ok.bs b o e).2 (I.ok.nofr e) (I.ok.noex b o e),I.base.free b o (I.ok.bs b o e).1 (I.ok.bs b o e).2 (I.ok.noex b o e)⟩
theorem Inv.bk (I:Inv X pins σ H s):∀b o,X.base.get? b=some o→s.heap.get? b=some o:=fun b o e=>(I.bs b o e).1
theorem Inv.mod (I:Inv X pins σ H s):Mod X.K X.mg X.base:=I.ok.mod
theorem Inv.kIn (I:Inv X pins σ H s):X.K.In s.heap:=I.ok.mod.kin.keeps I.bk
theorem Inv.nolimit (I:Inv X pins σ H s):s.heap.NoLimit:=I.ok.mod.nolimit.keeps I.bk
theorem Inv.lt (I:Inv X pins σ H s):X.env.locals < s.heap.objs.size:=let ⟨_,hn,_⟩:=I.loc; hn.lt
theorem Inv.sz (I:Inv X pins σ H s):X.s_0.heap.objs.size≤s.heap.objs.size:=Nat.le_trans I.ok.above (Nat.le_of_lt I.lt)
theorem Inv.nofs (I:Inv X pins σ H s) {a:Addr} (h:s.heap.objs.size≤a):a∉X.fs:=fun hb=>by
 obtain⟨_,o,ho,_⟩:=I.ok.funs.mem hb
 exact absurd (Nat.lt_of_lt_of_le (Heap.lt_size ho) (Nat.le_trans I.sz h)) (Nat.lt_irrefl _)
theorem Inv.cne (I:Inv X pins σ H s):∀x c,X.env.cells.lookup x=some c→c≠X.env.locals:=fun x c e z=>by
 obtain⟨v,o,ho,hd⟩:=I.cell x c e
 obtain⟨m,⟨o',es,ep,ho',hd',_⟩,_⟩:=I.loc
 rw [z,ho'] at ho; cases ho; rw [hd'] at hd; cases hd
theorem Inv.funs (I:Inv X pins σ H s):s.heap.FunFrames X.base X.outer:=by
 have all:∀(l:List Env),(∀b∈frs l,b∈X.fs)→X.s_0.heap.FunFrames X.base l→s.heap.FunFrames X.base l:=by
  intro l
  induction l with
  | nil=>intro _ _; trivial
  | cons env r ih=>
   intro hs hl
   obtain⟨hk,⟨L,o,hf,hn,ho,hd⟩,hr⟩:=hl
   have hL:L∈X.fs:=hs L (by unfold frs; rw [List.filterMap_cons,hf]; exact List.mem_cons_self)
   obtain⟨sl,e⟩:=I.base.slot L o ho (I.ok.frf L hL) hL fun z=>I.ok.exfs L z hL
   exact⟨hk,⟨L,_,hf,hn,e,hd⟩,ih (fun b hb=>hs b (by unfold frs; rw [List.filterMap_cons,hf]; exact List.mem_cons_of_mem _ hb)) hr⟩
 exact all X.outer (fun _ hb=>hb) I.ok.funs
theorem Inv.stack (I:Inv X pins σ H s):s.heap.FunFrames X.base X.stack:=by
 rcases I.ok.stk with e | ⟨e,hf⟩
 ·rw [e]; exact I.funs
 ·rw [e]
  obtain⟨m,hn,_⟩:=I.loc
  refine .cons (by rw [I.ok.kind]; decide) hf hn ?_ I.funs
  exact Heap.get?_none_of_le (Nat.le_trans I.ok.bsz I.ok.above)
theorem Inv.stkSub (I:Inv X pins σ H s):∀b∈frs X.stack,b∈X.env.locals::X.fs:=fun b hb=>by
 rcases I.ok.stk with e | ⟨e,hf⟩
 ·rw [e] at hb; exact List.mem_cons_of_mem _ hb
 ·rw [e] at hb
  unfold frs at hb
  rw [List.filterMap_cons,hf] at hb
  exact hb
theorem Inv.stkFree (I:Inv X pins σ H s):∀b∈frs X.stack,H b=none:=fun b hb=>by
 rcases List.mem_cons.mp (I.stkSub b hb) with e | hb
 ·rw [e]; exact I.free
 ·obtain⟨_,o,ho,_⟩:=I.ok.funs.mem hb
  exact I.base.free b o ho (I.ok.frf b hb) fun z=>I.ok.exfs b z hb
theorem Inv.step {g':Array GenState} {t':Nat} {d':Drawn} {ch:List Addr} (I:Inv X pins σ H s)
  (hch:∀b∈ch,(b∈X.ex∨X.s_0.heap.objs.size≤b)∧b≠X.env.locals∧(∀x c,X.env.cells.lookup x=some c→c≠b)∧∀p∈X.pn++pins,p.1≠b)
  (keep:∀b o,b≠X.env.locals→b∉X.fs→b∉ch→s.heap.get? b=some o→H b=none→h'.get? b=some o)
  (slot:∀b o,b≠X.env.locals→b∈X.fs→b∉ch→s.heap.get? b=some o→H b=none→∃sl,h'.get? b=some {o with slots:=sl}) (free:∀b o,b∉ch→s.heap.get? b=some o→H b=none→H' b=none)
  (there:∀b o,b∉ch→s.heap.get? b=some o→∃o',h'.get? b=some o')
  (tups:∀b xs,H b=some (.tup xs)→H' b=some (.tup xs)) (frzs:∀b o u,H b=some (.frz o u)→H' b=some (.frz o u)) (tbls:∀b ps,H b=some (.tbl ps)→∃more,H' b=some (.tbl (ps++more)))
  (ns:∀m,s.heap.Ns X.env.locals m→h'.Ns X.env.locals m) (hok:HOk X.prog X.w H' h') (hg:AllBare g'):
  Inv X pins σ H' {s with heap:=h',gens:=g',drawn:=d',toks:=t'}:=by
 have neL:∀b o,X.s_0.heap.get? b=some o→b≠X.env.locals:=fun b o e=>Nat.ne_of_lt (Nat.lt_of_lt_of_le (Heap.lt_size e) I.ok.above)
 have neC:∀b o,X.s_0.heap.get? b=some o→b∉X.ex→b∉ch:=fun b o e hx hb=>by
  rcases (hch b hb).1 with z | z
  ·exact hx z
  ·exact absurd (Nat.lt_of_lt_of_le (Heap.lt_size e) z) (Nat.lt_irrefl _)
 have cellK:∀x c,X.env.cells.lookup x=some c→∀v,s.heap.IsCell c v→h'.IsCell c v:=fun x c e v ⟨o,ho,hd⟩=>by
  have nch:c∉ch:=fun z=>(hch c z).2.2.1 x c e rfl
  by_cases hc:c∈X.fs
  ·obtain⟨sl,q⟩:=slot c o (I.cne x c e) hc nch ho (I.freeC x c e)
   exact⟨_,q,hd⟩
  ·exact⟨o,keep c o (I.cne x c e) hc nch ho (I.freeC x c e),hd⟩
 refine⟨I.ok,I.os,hg,⟨fun b o e n hb hx=>?_,fun b o e n hb hx=>?_,fun b o e n hx=>?_,fun b o e hx=>?_,fun b xs e=>tups b xs (I.base.tups b xs e),fun b o xs e=>frzs b o xs (I.base.frzs b o xs e),fun b ps e=>?_⟩,?_,fun x c e=>?_,?_,fun x c e=>?_,fun p hp=>?_,hok,I.len⟩
 ·exact keep b o (neL b o e) hb (neC b o e hx) (I.base.keep b o e n hb hx) (I.base.free b o e n hx)
 ·obtain⟨sl,e1⟩:=I.base.slot b o e n hb hx
  obtain⟨sl',e2⟩:=slot b _ (neL b o e) hb (neC b o e hx) e1 (I.base.free b o e n hx)
  exact⟨sl',e2⟩
 ·obtain⟨o',e1⟩:=I.base.there b o e hx
  exact free b o' (neC b o e hx) e1 (I.base.free b o e n hx)
 ·obtain⟨o',e1⟩:=I.base.there b o e hx
  exact there b o' (neC b o e hx) e1
 ·obtain⟨m1,e1⟩:=I.base.tbls b ps e
  obtain⟨m2,e2⟩:=tbls b _ e1
  exact⟨m1++m2,by rw [e2,Array.append_assoc]⟩
 ·obtain⟨m,hn,hl⟩:=I.loc
  refine⟨m,ns m hn,fun i x v e1 e2 e3=>?_⟩
  obtain⟨u,r,l⟩:=hl i x v e1 e2 e3
  refine⟨u,r,?_⟩
  rcases l with l | ⟨k,c,e,z⟩
  ·exact .inl l
  ·exact .inr ⟨k,c,e,cellK x c e _ z⟩
 ·obtain⟨v,z⟩:=I.cell x c e
  exact⟨v,cellK x c e v z⟩
 ·obtain⟨m,⟨o,_,_,ho,_⟩,_⟩:=I.loc
  exact free _ o (fun z=>(hch _ z).2.1 rfl) ho I.free
 ·obtain⟨v,o,ho,hd⟩:=I.cell x c e
  exact free c o (fun z=>(hch c z).2.2.1 x c e rfl) ho (I.freeC x c e)
 ·obtain⟨e,n,ne,nf,d⟩:=I.pin p hp
  have nch:p.1∉ch:=fun z=>(hch p.1 z).2.2.2 p hp rfl
  exact⟨keep p.1 p.2 ne nf nch e n,free p.1 p.2 nch e n,ne,nf,d⟩
theorem Inv.un {t':Nat} (I:Inv X pins σ H s) (u:Un X.fs [] H H' s.heap h') (hok:HOk X.prog X.w H' h'):Inv X pins σ H' {s with heap:=h',toks:=t'}:=by
 obtain⟨m,⟨o,es,ep,ho,r⟩,_⟩:=id I.loc
 obtain⟨sl,hL⟩:=u.any ho I.free (by simp)
 exact I.step (g':=s.gens) (d':=s.drawn) (ch:=[]) (fun _ z=>nomatch z) (fun b o _ hb _ e n=>u.keep b o e n hb (by simp)) (fun b o _ hb _ e n=>u.slot b o e n hb (by simp)) (fun b o _ e n=>u.free b o e n (by simp)) (fun b o _ e=>u.there b o e (by simp)) u.tups u.frzs u.tbls (fun m' hm=>by
  obtain⟨o',es',ep',ho',r'⟩:=hm
  rw [ho] at ho'; cases ho'
  exact⟨_,es',ep',hL,r'⟩) hok I.bare
theorem Inv.call {g':Array GenState} {t':Nat} {d':Drawn} {ch:List Addr} (I:Inv X pins σ H s) (u:Un (frs X.stack) ch H H' s.heap h') (hok:HOk X.prog X.w H' h') (hg:AllBare g')
  (hch:∀b∈ch,(b∈X.ex∨X.s_0.heap.objs.size≤b)∧b≠X.env.locals∧(∀x c,X.env.cells.lookup x=some c→c≠b)∧∀p∈X.pn++pins,p.1≠b):
  Inv X pins σ H' {s with heap:=h',gens:=g',drawn:=d',toks:=t'}:=by
 obtain⟨m,⟨o,es,ep,ho,r⟩,_⟩:=id I.loc
 obtain⟨sl,hL⟩:=u.any ho I.free fun z=>(hch _ z).2.1 rfl
 exact I.step (ch:=ch) hch (fun b o hL hb hc e n=>u.keep b o e n (fun z=>(List.mem_cons.mp (I.stkSub b z)).elim hL hb) hc) (fun b o _ _ hc e n=>u.any e n hc) (fun b o hc e n=>u.free b o e n hc) (fun b o hc e=>u.there b o e hc) u.tups u.frzs u.tbls (fun m' hm=>by
  obtain⟨o',es',ep',ho',r'⟩:=hm
  rw [ho] at ho'; cases ho'
  exact⟨_,es',ep',hL,r'⟩) hok hg
theorem Inv.turned {t':Nat} {it:Addr} (I:Inv X pins σ H s) (k:∀b o,b≠it→s.heap.get? b=some o→h'.get? b=some o) (hn:H it=none) (hL:it≠X.env.locals)
  (h1:it∈X.ex∨X.s_0.heap.objs.size≤it) (h2:∀x c,X.env.cells.lookup x=some c→c≠it) (h3:∀p∈X.pn++pins,p.1≠it):Inv X pins σ H {s with heap:=h',toks:=t'}:=by
 have nit:∀b u,H b=some u→b≠it:=fun b u e z=>by rw [z,hn] at e; cases e
 refine I.step (g':=s.gens) (d':=s.drawn) (ch:=[it]) (fun b hb=>?_) (fun b o _ _ hc e _=>k b o (fun z=>hc (by simp [z])) e) (fun b o _ _ hc e _=>⟨o.slots,k b o (fun z=>hc (by simp [z])) e⟩) (fun _ _ _ _ n=>n)
  (fun b o hc e=>⟨o,k b o (fun z=>hc (by simp [z])) e⟩) (fun _ _ e=>e) (fun _ _ _ e=>e) (fun b ps e=>⟨#[],by rw [e]; simp⟩) (fun m hm=>?_) (fun b u e=>?_) I.bare
 ·have e:b=it:=by simpa using hb
  subst e
  exact⟨h1,hL,h2,h3⟩
 ·obtain⟨o,es,ep,ho,r⟩:=hm
  exact⟨o,es,ep,k _ o (Ne.symm hL) ho,r⟩
 ·refine(I.hok b u e).stay (fun c v hc q=>k c v ?_ q) (fun _ q=>q) fun _ _ q=>q
  rcases hc with z | z
  ·rw [z]; exact nit b u e
  ·exact nit c _ z
theorem Inv.tok (I:Inv X pins σ H s) (t:Nat):Inv X pins σ H {s with toks:=t}:=I.un (h':=s.heap) (t':=t) Un.refl I.hok
theorem Inv.kept {t':Nat} (I:Inv X pins σ H s) (k:∀b u,s.heap.get? b=some u→h'.get? b=some u):Inv X pins σ H {s with heap:=h',toks:=t'}:=I.un (Un.kept k) (I.hok.kept k)
theorem Inv.laid {a:Addr} {o:HO} {t':Nat} (I:Inv X pins σ H s) (k:∀b u,s.heap.get? b=some u→h'.get? b=some u) (hp:s.heap.objs.size≤a) (new:ObjOk X.prog X.w (upd H a o) h' a o):
  Inv X pins σ (upd H a o) {s with heap:=h',toks:=t'}:=I.un (Un.laid k hp (I.hok.fresh hp)) (I.hok.laid k hp new)
theorem Inv.write {x e:Addr} {o:HO} {t':Nat} (I:Inv X pins σ H s) (mu:Mut (H x)) (he:e=x∨H e=some (.own x)) (k:∀b u,b≠e→s.heap.get? b=some u→h'.get? b=some u) (heo:∃u,h'.get? e=some u)
  (new:ObjOk X.prog X.w (upd H x o) h' x o):Inv X pins σ (upd H x o) {s with heap:=h',toks:=t'}:=I.un (Un.write mu he k heo) (I.hok.write mu he k heo new)
theorem Inv.weak {σ':List (Option V)} (I:Inv X pins σ H s) (hl:σ'.length=σ.length) (w:∀(i:Nat) v,σ'[i]?= some (some v)→σ[i]?= some (some v)):Inv X pins σ' H s:=
 ⟨I.ok,I.os,I.bare,I.base,let ⟨m,hn,hl'⟩:=I.loc; ⟨m,hn,fun i x v e1 e2 e3=>hl' i x v e1 (w i v e2) e3⟩,I.cell,I.free,I.freeC,I.pin,I.hok,hl.trans I.len⟩
theorem Inv.pins_of {pins':List (Addr×Obj)} (I:Inv X pins σ H s) (h:∀p∈pins',s.heap.get? p.1=some p.2∧H p.1=none∧p.1≠X.env.locals∧p.1∉X.fs∧∀v,p.2.data≠.cell v):Inv X pins' σ H s:=
 ⟨I.ok,I.os,I.bare,I.base,I.loc,I.cell,I.free,I.freeC,fun p hp=>(List.mem_append.mp hp).elim (fun z=>I.pin p (List.mem_append_left _ z)) (h p),I.hok,I.len⟩
theorem sr {N:List Str} (hN:N.Nodup) {i j:Nat} {x:Str} (a:N[i]?= some x) (b:N[j]?= some x):i=j:=by
 obtain⟨h1,e1⟩:=List.getElem?_eq_some_iff.mp a
 obtain⟨h2,e2⟩:=List.getElem?_eq_some_iff.mp b
 exact(List.getElem_inj hN).mp (e1.trans e2.symm)
theorem uY {M:Model} {A:Around} {E:Value→Shared→Prop} {i:Nat} {x:Str} {v:V} {u:Value} {Q:Unit→Shared→Prop} (I:Inv X pins σ H s) (hN:X.N.Nodup) (hi:X.N[i]?= some x) (hx:Loc X.env.scope x) (r:RelV v u)
  (h:∀s',Inv X pins (σ.set i (some v)) H s'→(∃a,Heap.SameBut a s.heap s'.heap∧(a=X.env.locals∨X.env.cells.lookup x=some a))→Q () s') (hf:X.fn x=true∨X.env.scope.names.lookup x=some .local:=by first | exact .inl rfl | exact .inr rfl | assumption):wpAny M A (storeName X.env x u) Q E s:=by
 obtain⟨m,hn,hl⟩:=id I.loc
 have hcls:(X.env.scope.kind == .class || (X.env.scope.kind == .module && X.env.locals != X.env.globals))=false:=by rw [I.ok.kind]; rfl
 have hiσ:i < σ.length:=by rw [I.len]; exact(List.getElem?_eq_some_iff.mp hi).1
 have cne:=I.cne
 have tracked:∀{a:Addr} {h':Heap},(∃o,s.heap.get? a=some o∧H a=none)→Heap.SameBut a s.heap h'→HOk X.prog X.w H h':=fun {a h'} ha hs b ob e=>by
  obtain⟨_,_,hfree⟩:=ha
  refine(I.hok b ob e).stay (fun c w' hc q=>(hs.2 c ?_).trans q) (fun _ q=>q) fun _ _ q=>q
  rintro rfl
  rcases hc with rfl | hc
  ·rw [hfree] at e; cases e
  ·rw [hfree] at hc; cases hc
 rcases hx with hk | hk
 ·refine wpAny_storeName_local hk hn (fun h' hn' hs=>?_) hcls
  obtain⟨oL,_,_,hoL,_⟩:=id hn
  refine h _ ⟨I.ok,I.os,I.bare,⟨fun b o e n hb hx=>?_,fun b o e n hb hx=>?_,I.base.free,fun b o e hx=>?_,I.base.tups,I.base.frzs,I.base.tbls⟩,⟨_,hn',fun j y v' e1 e2 e3=>?_⟩,fun y c e=>?_,I.free,I.freeC,fun p hp=>?_,tracked ⟨oL,hoL,I.free⟩ hs,by simpa using I.len⟩ ⟨_,hs,.inl rfl⟩
  ·exact(hs.2 b (Nat.ne_of_lt (Nat.lt_of_lt_of_le (Heap.lt_size e) I.ok.above))).trans (I.base.keep b o e n hb hx)
  ·obtain⟨sl,e1⟩:=I.base.slot b o e n hb hx
   exact⟨sl,(hs.2 b (Nat.ne_of_lt (Nat.lt_of_lt_of_le (Heap.lt_size e) I.ok.above))).trans e1⟩
  ·obtain⟨o',e1⟩:=I.base.there b o e hx
   exact⟨o',(hs.2 b (Nat.ne_of_lt (Nat.lt_of_lt_of_le (Heap.lt_size e) I.ok.above))).trans e1⟩
  ·by_cases hj:j=i
   ·subst hj
    rw [hi] at e1; cases e1
    rw [List.getElem?_set_self hiσ] at e2
    cases e2
    exact⟨u,r,.inl ⟨hk,by simp⟩⟩
   ·rw [List.getElem?_set_ne (Ne.symm hj)] at e2
    obtain⟨u',r',q⟩:=hl j y v' e1 e2 e3
    refine⟨u',r',?_⟩
    rcases q with⟨k,e⟩ | ⟨k,c,e,z⟩
    ·refine .inl ⟨k,?_⟩
     have:y≠x:=fun e=>hj (sr hN e1 (e▸hi))
     simp [this,e]
    ·exact .inr ⟨k,c,e,z.sameBut hs (cne y c e)⟩
  ·obtain⟨w',z⟩:=I.cell y c e
   exact⟨w',z.sameBut hs (cne y c e)⟩
  ·obtain⟨e,n,ne,nf,d⟩:=I.pin p hp
   exact⟨(hs.2 p.1 ne).trans e,n,ne,nf,d⟩
 ·have hfn:X.fn x=true:=by
   rcases hf with z | z
   ·exact z
   ·rw [z] at hk; cases hk
  obtain⟨c,hc⟩:=I.ok.has x (.inl hk)
  obtain⟨w',z⟩:=I.cell x c hc
  refine wpAny_storeName_cell I.ok.kind hk hc z (fun h' hc' hs=>?_)
  obtain⟨oc,hoc,hocd⟩:=id z
  refine h {s with heap:=h'} ⟨I.ok,I.os,I.bare,⟨fun b o e n hb hx=>?_,fun b o e n hb hx=>?_,I.base.free,fun b o e hx=>?_,I.base.tups,I.base.frzs,I.base.tbls⟩,⟨m,hn.sameBut hs (Ne.symm (cne x c hc)),fun j y v' e1 e2 e3=>?_⟩,fun y c' e=>?_,I.free,I.freeC,fun p hp=>?_,tracked ⟨oc,hoc,I.freeC x c hc⟩ hs,by simpa using I.len⟩ ⟨c,hs,.inr hc⟩
  ·exact(hs.2 b (Nat.ne_of_lt (Nat.lt_of_lt_of_le (Heap.lt_size e) (I.ok.cab x c hfn hc)))).trans (I.base.keep b o e n hb hx)
  ·obtain⟨sl,e1⟩:=I.base.slot b o e n hb hx
   exact⟨sl,(hs.2 b (Nat.ne_of_lt (Nat.lt_of_lt_of_le (Heap.lt_size e) (I.ok.cab x c hfn hc)))).trans e1⟩
  ·obtain⟨o',e1⟩:=I.base.there b o e hx
   exact⟨o',(hs.2 b (Nat.ne_of_lt (Nat.lt_of_lt_of_le (Heap.lt_size e) (I.ok.cab x c hfn hc)))).trans e1⟩
  ·by_cases hj:j=i
   ·subst hj
    rw [hi] at e1; cases e1
    rw [List.getElem?_set_self hiσ] at e2
    cases e2
    exact⟨u,r,.inr ⟨.inl hk,c,hc,hc'⟩⟩
   ·rw [List.getElem?_set_ne (Ne.symm hj)] at e2
    obtain⟨u',r',q⟩:=hl j y v' e1 e2 e3
    refine⟨u',r',?_⟩
    rcases q with q | ⟨k,c',e,z'⟩
    ·exact .inl q
    ·refine .inr ⟨k,c',e,z'.sameBut hs ?_⟩
     rintro rfl
     exact hj (sr hN e1 (I.ok.inj _ _ _ e hc▸hi))
  ·by_cases hcc:c'=c
   ·subst hcc; exact⟨_,hc'⟩
   ·obtain⟨w2,z2⟩:=I.cell y c' e
    exact⟨w2,z2.sameBut hs hcc⟩
  ·obtain⟨e,n,ne,nf,d⟩:=I.pin p hp
   refine⟨(hs.2 p.1 ?_).trans e,n,ne,nf,d⟩
   intro q
   rw [q,hoc] at e
   have q':oc=p.2:=Option.some.inj e
   exact d w' (by rw [←q']; exact hocd)
theorem rf {M:Model} {A:Around} {E:Value→Shared→Prop} {i:Nat} {x:Str} {v:V} {u:Value} {Q:Unit→Shared→Prop} (I:Inv X pins σ H s) (hN:X.N.Nodup) (hi:X.N[i]?= some x) (hx:Loc X.env.scope x) (r:RelV v u)
  (h:∀s',Inv X pins (σ.set i (some v)) H s'→Q () s') (hf:X.fn x=true∨X.env.scope.names.lookup x=some .local:=by first | exact .inl rfl | exact .inr rfl | assumption):wpAny M A (storeName X.env x u) Q E s:=
 uY I hN hi hx r (fun s' I' _=>h s' I') hf
theorem Inv.call' {s':Shared} {ch:List Addr} (I:Inv X pins σ H s) (ho:s'.os=s.os) (u:Un (frs X.stack) ch H H' s.heap s'.heap) (hok:HOk X.prog X.w H' s'.heap) (hg:AllBare s'.gens)
  (hch:∀b∈ch,(b∈X.ex∨X.s_0.heap.objs.size≤b)∧b≠X.env.locals∧(∀x c,X.env.cells.lookup x=some c→c≠b)∧∀p∈X.pn++pins,p.1≠b):Inv X pins σ H' s':=by
 obtain⟨h',g',d',t',o'⟩:=s'
 have e:o'=s.os:=ho
 subst e
 exact I.call (g':=g') (t':=t') (d':=d') u hok hg hch
end
noncomputable abbrev XK:=Value→Option Addr→Hp→Prop
noncomputable abbrev St:=List (Option V)
noncomputable abbrev VK:=V→Hp→Prop
noncomputable abbrev TE:=St→Hp→VK→Prop
noncomputable abbrev TT:=St→Hp→(Bool→Hp→Prop)→Prop
noncomputable abbrev TA:=St→Hp→(List V→Hp→Prop)→Prop
structure t6 where
 nx:St→Hp→Prop
 rt:VK
 bk:St→Hp→Prop:=fun _ _=>False
 ct:St→Hp→Prop:=fun _ _=>False
noncomputable abbrev TS:=t6→St→Hp→Prop
noncomputable def EP (X:Cx) (pins:List (Addr×Obj)) (σ:St) (Q:VK) (u:Value) (s':Shared):Prop:=∃v H',Inv X pins σ H' s'∧RelV v u∧Q v H'
noncomputable def TP (X:Cx) (pins:List (Addr×Obj)) (σ:St) (Q:Bool→Hp→Prop) (b:Bool) (s':Shared):Prop:=∃H',Inv X pins σ H' s'∧Q b H'
noncomputable def AP (X:Cx) (pins:List (Addr×Obj)) (σ:St) (Q:List V→Hp→Prop) (us:List Value) (s':Shared):Prop:=∃vs H',Inv X pins σ H' s'∧Vals vs us∧Q vs H'
noncomputable def SP (X:Cx) (pins:List (Addr×Obj)) (D:t6) (f:Flow) (s':Shared):Prop:=
 match f with
 | .next=>∃σ' H',Inv X pins σ' H' s'∧D.nx σ' H'
 | .brk=>∃σ' H',Inv X pins σ' H' s'∧D.bk σ' H'
 | .cont=>∃σ' H',Inv X pins σ' H' s'∧D.ct σ' H'
 | .ret u=>∃v σ' H',Inv X pins σ' H' s'∧RelV v u∧D.rt v H'
noncomputable def PE (X:Cx) (e:Expr) (t:TE):Prop:=
 ∀(pins:List (Addr×Obj)) (s:Shared) (σ:St) (H:Hp) (Q:VK),Inv X pins σ H s→t σ H Q→wpAny (model X.prog X.w) X.A (eval e X.env) (EP X pins σ Q) X.xe s
noncomputable def PT (X:Cx) (e:Expr) (t:TT):Prop:=
 ∀(pins:List (Addr×Obj)) (s:Shared) (σ:St) (H:Hp) (Q:Bool→Hp→Prop),Inv X pins σ H s→t σ H Q→wpAny (model X.prog X.w) X.A (isTrue e X.env (eval e X.env)) (TP X pins σ Q) X.xe s
noncomputable def PW (X:Cx) (e:Expr) (t:TT):Prop:=
 ∀(whole:Sem Value) (pins:List (Addr×Obj)) (s:Shared) (σ:St) (H:Hp) (Q:Bool→Hp→Prop),Inv X pins σ H s→t σ H Q→wpAny (model X.prog X.w) X.A (isTrue e X.env whole) (TP X pins σ Q) X.xe s
theorem PW.pt {X:Cx} {e:Expr} {t:TT} (h:PW X e t):PT X e t:=h _
noncomputable def PA (X:Cx) (es:List Expr) (t:TA):Prop:=
 ∀(pos:Pos) (pins:List (Addr×Obj)) (s:Shared) (σ:St) (H:Hp) (Q:List V→Hp→Prop),Inv X pins σ H s→t σ H Q→wpAny (model X.prog X.w) X.A (spliced (backTo pos (starEach es X.env))) (AP X pins σ Q) X.xe s
noncomputable def PS (X:Cx) (st:Stmt) (t:TS):Prop:=
 ∀(pins:List (Addr×Obj)) (s:Shared) (σ:St) (H:Hp) (D:t6),Inv X pins σ H s→t D σ H→wpAny (model X.prog X.w) X.A (exec st X.env) (SP X pins D) X.xe s
noncomputable def PSs (X:Cx) (st:List Stmt) (t:TS):Prop:=
 ∀(pins:List (Addr×Obj)) (s:Shared) (σ:St) (H:Hp) (D:t6),Inv X pins σ H s→t D σ H→wpAny (model X.prog X.w) X.A (execs st X.env) (SP X pins D) X.xe s
theorem thn {α:Type} {t:Sem α} {Q Q':α→Shared→Prop} {M:Model} {A:Around} {E:Value→Shared→Prop} {s:Shared} (h:wpAny M A t Q E s) (hQ:∀a s,Q a s→Q' a s):wpAny M A t Q' E s:=wpAny_mono h hQ fun _ _ x=>x
end L2
namespace L2
open PySem PySem.Spec PyProof.Rows
section
variable {X:Cx}
noncomputable def K5 (i:Nat):TE:=fun σ H Q=>∃v,σ[i]?= some (some v)∧Q v H
noncomputable def tC (v:V):TE:=fun _ H Q=>Q v H
theorem J7 {i:Nat} {x:Str} {pos:Pos} (hN:X.N[i]?= some x) (hv:Vis X.env.scope x) (hd:(x == ("__debug__": Str))=false:=by decide) (hcd:(x == ("__classdict__": Str))=false:=by decide):PE X (.Name x pos) (K5 i):=by
 intro pins s σ H Q I h
 obtain⟨v,e,h⟩:=h
 obtain⟨m,hn,hl⟩:=I.loc
 obtain⟨u,r,l⟩:=hl i x v hN e hv
 have fin:EP X pins σ Q u s:=⟨v,H,I,r,h⟩
 rcases l with⟨hk,hm⟩ | ⟨hk,c,hc,hcell⟩
 ·exact wpAny_Name (wpAny_loadName_local I.ok.kind hk hn hm fin) hd
 ·rcases hk with hk | hk
  ·exact wpAny_Name (wpAny_loadName_cell I.ok.kind hk hc hcell fin) hd
  ·exact wpAny_Name (wpAny_loadName_free I.ok.kind hk hc hcell fin hcd) hd
theorem am {i j pos}:PE X (.Constant (.int i) j pos) (tC (.int i)):=fun _ _ _ H _ I h=>wpAny_Constant_int ⟨.int i,H,I.tok _,⟨_,rfl⟩,h⟩
theorem Jo {b j pos}:PE X (.Constant (.bool b) j pos) (tC (.bl b)):=fun _ _ _ H _ I h=>Constant_bool ⟨.bl b,H,I,rfl,h⟩
theorem bM {j pos}:PE X (.Constant .none j pos) (tC .non):=fun _ _ _ H _ I h=>Constant_none ⟨.non,H,I,rfl,h⟩
noncomputable def Gl (X:Cx) (x:Str):Prop:=X.env.kindOf x=some .globalImplicit
theorem nI {E:Value→Shared→Prop} {pins:List (Addr×Obj)} {s:Shared} {σ:St} {H:Hp} {x:Str} {u:Value} {pos:Pos} {Q:Value→Shared→Prop} (I:Inv X pins σ H s) (hg:Gl X x) (hm:X.mg x=some u) (h:Q u s)
  (hd:(x == ("__debug__": Str))=false:=by decide):wpAny (model X.prog X.w) X.A (eval (.Name x pos) X.env) Q E s:=
 Calls.Name_function_global I.ok.kind hg (Calls.loadGlobal_global (by rw [I.ok.glob]; exact I.mod.glob.keeps I.bk) hm h) hd
theorem mK {E:Value→Shared→Prop} {pins:List (Addr×Obj)} {s:Shared} {σ:St} {H:Hp} {x:Str} {u:Value} {pos:Pos} {Q:Value→Shared→Prop} (I:Inv X pins σ H s) (hg:Gl X x) (hm:X.mg x=none) (hv:bootBuiltins x=some u) (h:Q u s)
  (hn:x≠"__name__":=by decide) (hd:(x == ("__debug__": Str))=false:=by decide):wpAny (model X.prog X.w) X.A (eval (.Name x pos) X.env) Q E s:=by
 obtain⟨mb,h1,h2⟩:=I.mod.blt
 exact Calls.Name_function_global I.ok.kind hg (Calls.loadGlobal_builtin (by rw [I.ok.glob]; exact I.mod.glob.keeps I.bk) hm (by rw [I.ok.blt]; exact h1.keeps I.bk) ((h2 x hn).trans hv) h) hd
theorem C6 {x:Str} {v:V} {u:Value} {pos:Pos} (hg:Gl X x) (hm:X.mg x=some u) (r:RelV v u) (hd:(x == ("__debug__": Str))=false:=by decide):PE X (.Name x pos) (tC v):=
 fun _ _ _ H _ I h=>nI I hg hm ⟨v,H,I,r,h⟩ hd
variable {a b:Expr} {ta tb:TE} {pos:Pos}
variable {tA tB':TT} {rest:List Expr}
noncomputable def Ms (t u:TT):TT:=fun σ H Q=>t σ H fun c H1=>if c=true then u σ H1 Q else Q false H1
noncomputable def tOr (t u:TT):TT:=fun σ H Q=>t σ H fun c H1=>if c=true then Q true H1 else u σ H1 Q
noncomputable def Ml (t:TT):TT:=fun σ H Q=>t σ H fun c H1=>Q (!c) H1
theorem wy (ha:PT X a tA):PW X (.BoolOp .And [a] pos) tA:=by
 intro wh pins s σ H Q I h
 refine isTrue_and (thn (ha pins s σ H Q I h) fun c s1 e=>?_)
 cases c with
 | true=>exact isTrue_and_nil e
 | false=>exact e
theorem gR (ha:PT X a tA):PW X (.BoolOp .Or [a] pos) tA:=by
 intro wh pins s σ H Q I h
 refine isTrue_or (thn (ha pins s σ H Q I h) fun c s1 e=>?_)
 cases c with
 | false=>exact isTrue_or_nil e
 | true=>exact e
theorem Bl (ha:PT X a tA) (hb:PW X (.BoolOp .And (b::rest) pos) tB'):PW X (.BoolOp .And (a::b::rest) pos) (Ms tA tB'):=by
 intro wh pins s σ H Q I h
 refine isTrue_and (thn (ha pins s σ H _ I h) fun c s1 ⟨H1,I1,q1⟩=>?_)
 cases c with
 | true=>exact hb wh pins s1 σ H1 Q I1 q1
 | false=>exact⟨H1,I1,q1⟩
theorem ko (ha:PT X a tA) (hb:PW X (.BoolOp .Or (b::rest) pos) tB'):PW X (.BoolOp .Or (a::b::rest) pos) (tOr tA tB'):=by
 intro wh pins s σ H Q I h
 refine isTrue_or (thn (ha pins s σ H _ I h) fun c s1 ⟨H1,I1,q1⟩=>?_)
 cases c with
 | true=>exact⟨H1,I1,q1⟩
 | false=>exact hb wh pins s1 σ H1 Q I1 q1
theorem cq (ha:PT X a tA):PT X (.UnaryOp .Not a pos) (Ml tA):=by
 intro pins s σ H Q I h
 exact isTrue_not (ha pins s σ H (fun c H1=>Q (!c) H1) I h)
noncomputable def Lc (ta tb:TE):TE:=fun σ H Q=>ta σ H fun x H1=>∃c,x=.bl c∧if c=true then tb σ H1 Q else Q (.bl false) H1
theorem J8 {op} {t:TE} (h:PE X a t):PE X (.BoolOp op [a] pos) t:=fun pins s σ H Q I hw=>BoolOp_one (h pins s σ H Q I hw)
theorem Kb (ha:PE X a ta) (hb:PE X (.BoolOp .And (b::rest) pos) tb):PE X (.BoolOp .And (a::b::rest) pos) (Lc ta tb):=by
 intro pins s σ H Q I h
 refine BoolOp_and (thn (ha pins s σ H _ I h) fun v s1 ⟨x,H1,I1,r1,q1⟩=>?_)
 obtain⟨c,rfl,q1⟩:=q1
 cases r1
 refine wpAny_truthy_bool ?_
 cases c with
 | true=>exact hb pins s1 σ H1 Q I1 q1
 | false=>exact⟨.bl false,H1,I1,rfl,q1⟩
noncomputable def tIf (t:TT) (ta tb:TE):TE:=fun σ H Q=>t σ H fun c H1=>if c=true then ta σ H1 Q else tb σ H1 Q
theorem iW {c:Expr} (hc:PT X c tA) (ha:PE X a ta) (hb:PE X b tb):PE X (.IfExp c a b pos) (tIf tA ta tb):=by
 intro pins s σ H Q I h
 refine wpAny_IfExp (thn (hc pins s σ H _ I h) fun d s1 ⟨H1,I1,q1⟩=>?_)
 cases d with
 | true=>exact ha pins s1 σ H1 Q I1 q1
 | false=>exact hb pins s1 σ H1 Q I1 q1
end
end L2
namespace L2
open PySem PySem.Spec PyProof.Rows
noncomputable def SqL (K:PySem.W.Frag) (H:Hp) (a:Addr) (xs:List V):Prop:=
 Rd H a (.lst xs)∨
  ∃(o:Obj) (its:Array Value) (n:Nat),K.lookup a=some o∧o.cls=.type "list"∧o.dict=none∧o.data=.seq its n∧its.size≤sizeLine∧Vals xs its.toList
noncomputable def SqT (K:PySem.W.Frag) (H:Hp) (a:Addr) (xs:List V):Prop:=
 Rd H a (.tup xs)∨
  ∃(o:Obj) (its:Array Value) (n:Nat),K.lookup a=some o∧o.cls=.type "tuple"∧o.data=.seq its n∧its.size≤sizeLine∧Vals xs its.toList
noncomputable def MW:Value→Option V
 | .none=>some .non
 | .bool b=>some (.bl b)
 | .int i _=>some (.int i)
 | .str x _=>some (.str x)
 | .bytes b _=>some (.byt b)
 | .float b _=>some (.flt b)
 | .ref a=>some (.ref a)
 | .type n=>some (.ty n)
 | _=>none
theorem RelV.abs {x:V} {u:Value} (r:RelV x u):MW u=some x:=by
 cases x with
 | non=>cases r; rfl
 | bl _=>cases r; rfl
 | int _=>obtain⟨t,rfl⟩:=r; rfl
 | str _=>obtain⟨t,rfl⟩:=r; rfl
 | byt _=>obtain⟨t,rfl⟩:=r; rfl
 | flt _=>obtain⟨t,rfl⟩:=r; rfl
 | ref _=>cases r; rfl
 | ty _=>cases r; rfl
theorem RelV.inj {x y:V} {u:Value} (r:RelV x u) (q:RelV y u):x=y:=Option.some.inj (r.abs.symm.trans q.abs)
theorem Vals.inj:∀{xs ys:List V} {us:List Value},Vals xs us→Vals ys us→xs=ys
 | _,_,_,.nil,.nil=>rfl
 | _,_,_,.cons r t,.cons r' t'=>by rw [r.inj r',Vals.inj t t']
section
variable {X:Cx} {pins:List (Addr×Obj)} {σ:St} {H:Hp} {s:Shared} {a:Addr} {xs ys:List V}
theorem SqL.of {K:PySem.W.Frag} (h:H a=some (.lst xs)):SqL K H a xs:=.inl (.inl h)
theorem SqT.of {K:PySem.W.Frag} (h:H a=some (.tup xs)):SqT K H a xs:=.inl (.inl h)
theorem Inv.list (I:Inv X pins σ H s) (h:SqL X.K H a xs):∃its:List Value,Vals xs its∧PlainL s.heap a its.toArray∧xs.length≤sizeLine:=by
 rcases h with h | ⟨o,its,n,hk,hc,hd,hs,hz,r⟩
 ·obtain⟨z,its,n,r,e⟩:=h.ok I.hok
  exact⟨its,r,⟨_,n,e,rfl,rfl,rfl⟩,z⟩
 ·refine⟨its.toList,r,⟨o,n,I.kIn a o hk,hc,hd,by simpa using hs⟩,?_⟩
  have e:=r.length
  simp only [Array.length_toList] at e
  omega
theorem Inv.tuple (I:Inv X pins σ H s) (h:SqT X.K H a xs):∃its:List Value,Vals xs its∧IsTup s.heap a its.toArray∧xs.length≤sizeLine:=by
 rcases h with h | ⟨o,its,n,hk,hc,hs,hz,r⟩
 ·obtain⟨z,its,r,p⟩:=h.ok I.hok
  exact⟨its,r,p,z⟩
 ·refine⟨its.toList,r,⟨o,I.kIn a o hk,hc,n,by simpa using hs⟩,?_⟩
  have e:=r.length
  simp only [Array.length_toList] at e
  omega
theorem Inv.list_inj (I:Inv X pins σ H s) (h:SqL X.K H a xs) (h':SqL X.K H a ys):xs=ys:=by
 obtain⟨its,r,⟨o,n,e,_,_,d⟩,_⟩:=I.list h
 obtain⟨its',r',⟨o',n',e',_,_,d'⟩,_⟩:=I.list h'
 rw [e] at e'; cases e'
 rw [d] at d'
 injection d' with d1 _
 have:its=its':=by simpa using congrArg Array.toList d1
 subst this
 exact r.inj r'
end
noncomputable abbrev Cx.wish (X:Cx) (E:Value→Shared→Prop):Cx:={X with xe:=E}
noncomputable abbrev Cx.nox (X:Cx):Cx:=X.wish fun _ _=>False
theorem Cx.Ok.wish {X:Cx} (ok:X.Ok) (E:Value→Shared→Prop):(X.wish E).Ok:=
 ⟨ok.mod,ok.kind,ok.glob,ok.blt,ok.above,ok.inj,ok.has,ok.cab,ok.hd,ok.frames,ok.stk,ok.exf,ok.bs,ok.bsz,ok.noex,ok.exfs,ok.funs,ok.frf⟩
theorem Cx.Ok.unwish {X:Cx} {E:Value→Shared→Prop} (ok:(X.wish E).Ok):X.Ok:=
 ⟨ok.mod,ok.kind,ok.glob,ok.blt,ok.above,ok.inj,ok.has,ok.cab,ok.hd,ok.frames,ok.stk,ok.exf,ok.bs,ok.bsz,ok.noex,ok.exfs,ok.funs,ok.frf⟩
section
variable {X:Cx} {pins:List (Addr×Obj)} {σ:St} {H:Hp} {s:Shared} {E:Value→Shared→Prop}
theorem Inv.wish (I:Inv X pins σ H s) (E:Value→Shared→Prop):Inv (X.wish E) pins σ H s:=⟨I.ok.wish E,I.os,I.bare,I.base,I.loc,I.cell,I.free,I.freeC,I.pin,I.hok,I.len⟩
theorem Inv.unwish (I:Inv (X.wish E) pins σ H s):Inv X pins σ H s:=⟨I.ok.unwish,I.os,I.bare,I.base,I.loc,I.cell,I.free,I.freeC,I.pin,I.hok,I.len⟩
theorem SP.unwish {D:t6} {f:Flow} {s':Shared} (h:SP (X.wish E) pins D f s'):SP X pins D f s':=by
 cases f with
 | next=>obtain⟨σ',H',I,q⟩:=h; exact⟨σ',H',I.unwish,q⟩
 | brk=>obtain⟨σ',H',I,q⟩:=h; exact⟨σ',H',I.unwish,q⟩
 | cont=>obtain⟨σ',H',I,q⟩:=h; exact⟨σ',H',I.unwish,q⟩
 | ret u=>obtain⟨v,σ',H',I,r,q⟩:=h; exact⟨v,σ',H',I.unwish,r,q⟩
theorem PSs.nox {st:List Stmt} {t:TS} (h:PSs X.nox st t):PSs X st t:=fun pins s σ H D I hw=>
 wpAny_mono (h pins s σ H D (I.wish _) hw) (fun _ _ q=>q.unwish) fun _ _ z=>False.elim z
end
section
variable {X:Cx} {st:Stmt} {rest:List Stmt} {t u:TS} {e:Expr} {te:TE} {pos:Pos}
noncomputable def K8:TS:=fun D σ H=>D.nx σ H
noncomputable def DY (t u:TS):TS:=fun D σ H=>t {D with nx:=u D} σ H
theorem aC:PSs X [] K8:=fun _ _ σ H _ I h=>wpAny_execs_nil ⟨σ,H,I,h⟩
theorem ag (h1:PS X st t) (h2:PSs X rest u):PSs X (st::rest) (DY t u):=by
 intro pins s σ H D I h
 refine wpAny_execs_cons (thn (h1 pins s σ H {D with nx:=u D} I h) fun f s1 q=>?_)
 cases f with
 | next=>
  obtain⟨σ',H',I',q⟩:=q
  exact h2 pins s1 σ' H' D I' q
 | ret v=>exact q
 | brk=>exact q
 | cont=>exact q
theorem aj (h1:PS X st t):PSs X [st] t:=by
 intro pins s σ H D I h
 refine wpAny_execs_cons (thn (h1 pins s σ H D I h) fun f s1 q=>?_)
 cases f with
 | next=>exact wpAny_execs_nil q
 | ret v=>exact q
 | brk=>exact q
 | cont=>exact q
noncomputable def La:TS:=fun D σ H=>D.ct σ H
theorem pP:PS X (.Continue pos) La:=fun _ _ σ H _ I h=>wpAny_Continue ⟨σ,H,I,h⟩
theorem Inv.quiet {pins:List (Addr×Obj)} {σ:St} {H:Hp} {s:Shared} (I:Inv X pins σ H s):interactive X.env=false:=by simp [interactive,I.ok.kind]
noncomputable def K9 (te:TE):TS:=fun D σ H=>te σ H fun _ H1=>D.nx σ H1
theorem bX (he:PE X e te) (hs:swapsWith e none pos.line X.env=pure false:=by rfl):PS X (.Expr e pos) (K9 te):=by
 intro pins s σ H D I h
 exact wpAny_Expr_any (thn (he pins s σ H _ I h) fun v s1 ⟨x,H1,I1,r1,q1⟩=>⟨σ,H1,I1,q1⟩) I.quiet hs
noncomputable def Mj (te:TE):TS:=fun D σ H=>te σ H D.rt
theorem ay (he:PE X e te):PS X (.Return (some e) pos) (Mj te):=by
 intro pins s σ H D I h
 exact wpAny_Return_some (thn (he pins s σ H _ I h) fun v s1 ⟨x,H1,I1,r1,q1⟩=>⟨x,σ,H1,I1,r1,q1⟩)
noncomputable def Mn (c:TT) (t u:TS):TS:=fun D σ H=>c σ H fun b H1=>if b=true then t D σ H1 else u D σ H1
theorem aS {c:Expr} {a b:List Stmt} {tc:TT} (hc:PT X c tc) (ha:PSs X a t) (hb:PSs X b u):PS X (.If c a b pos) (Mn tc t u):=by
 intro pins s σ H D I h
 refine wpAny_If (thn (hc pins s σ H _ I h) fun d s1 ⟨H1,I1,q1⟩=>?_)
 cases d with
 | true=>exact ha pins s1 σ H1 D I1 q1
 | false=>exact hb pins s1 σ H1 D I1 q1
end
noncomputable abbrev TG:=V→St→Hp→(St→Hp→Prop)→Prop
noncomputable abbrev TGs:=List V→St→Hp→(St→Hp→Prop)→Prop
noncomputable def PG (X:Cx) (target:Expr) (t:TG):Prop:=
 ∀(pins:List (Addr×Obj)) (s:Shared) (σ:St) (H:Hp) (v:V) (u:Value) (Q:St→Hp→Prop),Inv X pins σ H s→RelV v u→t v σ H Q→
  wpAny (model X.prog X.w) X.A (assign target X.env u) (fun _ s'=>∃σ' H',Inv X pins σ' H' s'∧Q σ' H') X.xe s
noncomputable def PGs (X:Cx) (ts:List Expr) (t:TGs):Prop:=
 ∀(pins:List (Addr×Obj)) (s:Shared) (σ:St) (H:Hp) (vs:List V) (us:List Value) (Q:St→Hp→Prop),Inv X pins σ H s→Vals vs us→t vs σ H Q→
  wpAny (model X.prog X.w) X.A (assignInOrder ((assignEach ts X.env).map (·.2)) us) (fun _ s'=>∃σ' H',Inv X pins σ' H' s'∧Q σ' H') X.xe s
noncomputable abbrev KP:=V→V→V→Hp→(Hp→Prop)→Prop
noncomputable def L7 (X:Cx) (t:KP):Prop:=
 ∀(pins:List (Addr×Obj)) (s:Shared) (σ:St) (H:Hp) (o i v:V) (ov iv u:Value) (Q:Hp→Prop),Inv X pins σ H s→RelV o ov→RelV i iv→RelV v u→t o i v H Q→
  wpAny (model X.prog X.w) X.A (setItem ov iv u) (fun _ s'=>∃H',Inv X pins σ H' s'∧Q H') X.xe s
noncomputable abbrev TIp:=V→V→Hp→VK→Prop
noncomputable def PIp (X:Cx) (op:Operator) (t:TIp):Prop:=
 ∀(pins:List (Addr×Obj)) (s:Shared) (σ:St) (H:Hp) (x y:V) (v u:Value) (Q:VK),Inv X pins σ H s→RelV x v→RelV y u→t x y H Q→
  wpAny (model X.prog X.w) X.A (inplaceOp op v u) (EP X pins σ Q) X.xe s
section
variable {X:Cx} {pos:Pos}
noncomputable def nP (i:Nat):TG:=fun v σ H Q=>Q (σ.set i (some v)) H
theorem a7 {i:Nat} {x:Str} (hN:X.N.Nodup) (hi:X.N[i]?= some x) (hx:Loc X.env.scope x) (hf:X.fn x=true∨X.env.scope.names.lookup x=some .local:=by first | exact .inl rfl | exact .inr rfl | assumption):PG X (.Name x pos) (nP i):=by
 intro pins s σ H v u Q I r h
 exact wpAny_assign_Name (rf I hN hi hx r (fun s' I'=>⟨_,H,I',h⟩) hf)
noncomputable def MO:TGs:=fun vs σ H Q=>vs=[]∧Q σ H
noncomputable def LI (t:TG) (u:TGs):TGs:=fun vs σ H Q=>∃v r,vs=v::r∧t v σ H fun σ' H'=>u r σ' H' Q
theorem lE:PGs X [] MO:=by
 intro pins s σ H vs us Q I r h
 obtain⟨e,h⟩:=h
 subst e
 cases r
 exact assignInOrder_nil ⟨σ,H,I,h⟩
theorem cP {e:Expr} {es:List Expr} {t:TG} {u:TGs} (h1:PG X e t) (h2:PGs X es u)
  (hs:(assignEach (e::es) X.env).map (·.2)=assign e X.env::(assignEach es X.env).map (·.2):=by rfl):PGs X (e::es) (LI t u):=by
 intro pins s σ H vs us Q I r h
 obtain⟨v,vr,e1,h⟩:=h
 subst e1
 cases r with
 | cons r rr=>
  rw [hs]
  refine assignInOrder_cons (thn (h1 pins s σ H _ _ _ I r h) fun _ s1 ⟨σ1,H1,I1,q1⟩=>?_)
  exact h2 pins s1 σ1 H1 _ _ Q I1 rr q1
noncomputable def LH (K:PySem.W.Frag) (n:Nat) (t:TGs):TG:=fun v σ H Q=>∃a xs,v=.ref a∧SqT K H a xs∧xs.length=n∧t xs σ H Q
theorem rX {es:List Expr} {k:Nat} {t:TGs} {n:Nat} (hc:X.calm=true) (h:PGs X es t)
  (hn:(assignEach es X.env).length=n:=by rfl) (hst:(assignEach es X.env).findIdx? (·.1)=none:=by rfl):PG X (.Tuple es k pos) (LH X.K n t):=by
 intro pins s σ H v u Q I r hw
 obtain⟨a,xs,e1,hq,hl,hw⟩:=hw
 subst e1
 cases r
 obtain⟨its,rv,ht,hz⟩:=I.tuple hq
 refine assign_Tuple_tuple (I.ok.hd hc) ht (by simp [hn,←hl,rv.length]) hst fun h' hx=>?_
 have I1:Inv X pins σ H {s with heap:=h'}:=I.kept (t':=s.toks) fun b o e=>hx b o (Nat.ne_of_lt (Heap.lt_size e)) e
 exact h pins _ σ H xs _ Q I1 (by simpa using rv) hw
noncomputable def MN (to ti:TE) (t:KP):TG:=fun v σ H Q=>to σ H fun o H1=>ti σ H1 fun i H2=>t o i v H2 fun H3=>Q σ H3
theorem J6 {o i:Expr} {to ti:TE} {t:KP} (ho:PE X o to) (hi:PE X i ti) (hs:L7 X t)
  (ha:∀v,assign (.Subscript o i pos) X.env v=(do
   let ov←holding [v] (eval o X.env)
   let iv←holding [v,ov] (eval i X.env)
   standAt pos
   holding [v,ov,iv] (setItem ov iv v)
   release [v,ov,iv] []):=by intro _; rfl):PG X (.Subscript o i pos) (MN to ti t):=by
 intro pins s σ H v u Q I r h
 rw [ha]
 refine wpAny_bind (wpAny_holding (thn (ho pins s σ H _ I h) fun ov s1 ⟨x,H1,I1,r1,q1⟩=>?_))
 refine wpAny_bind (wpAny_holding (thn (hi pins s1 σ H1 _ I1 q1) fun iv s2 ⟨y,H2,I2,r2,q2⟩=>?_))
 refine wpAny_bind (wpAny_standAt (wpAny_bind (wpAny_holding (thn (hs pins s2 σ H2 x y v ov iv u _ I2 r1 r2 r q2) fun _ s3 ⟨H3,I3,q3⟩=>?_))))
 exact wpAny_release ⟨σ,H3,I3,q3⟩
noncomputable def yA (te:TE) (g:TG):TS:=fun D σ H=>te σ H fun x H1=>g x σ H1 D.nx
theorem J4 {tg e:Expr} {te:TE} {g:TG} (he:PE X e te) (hg:PG X tg g) (hs:swapsWithSole [tg] e pos.line X.env=pure false:=by rfl) (hw:swappedStores [tg] e X.env=pure none:=by rfl)
  (h1:(assignEach [tg] X.env).map (·.2)=[assign tg X.env]:=by rfl):PS X (.Assign [tg] e pos) (yA te g):=by
 intro pins s σ H D I h
 refine wpAny_Assign_stores (thn (he pins s σ H _ I h) fun v s1 ⟨x,H1,I1,r1,q1⟩=>?_) hs hw
 rw [h1]
 exact thn (hg pins s1 σ H1 x v _ I1 r1 q1) fun _ s2 q=>q
theorem aF {i:Nat} {x:Str} {e:Expr} {te:TE} {pos':Pos} (hN:X.N.Nodup) (hi:X.N[i]?= some x) (hx:Loc X.env.scope x) (he:PE X e te) (hs:swapsWith e (some (.Name x pos')) pos.line X.env=pure false:=by rfl) (hf:X.fn x=true∨X.env.scope.names.lookup x=some .local:=by first | exact .inl rfl | exact .inr rfl | assumption):
  PS X (.Assign [.Name x pos'] e pos) (yA te (nP i)):=by
 intro pins s σ H D I h
 refine wpAny_Assign_Name (thn (he pins s σ H _ I h) fun v s1 ⟨y,H1,I1,r1,q1⟩=>?_) hs
 exact rf I1 hN hi hx r1 (fun s2 I2=>⟨_,H1,I2,q1⟩) hf
noncomputable def Mr (i:Nat) (te:TE) (ti:TIp):TS:=fun D σ H=>∃x,σ[i]?= some (some x)∧te σ H fun y H1=>ti x y H1 fun z H2=>D.nx (σ.set i (some z)) H2
theorem wz {i:Nat} {x:Str} {e:Expr} {te:TE} {op:Operator} {ti:TIp} {pos':Pos} (hN:X.N.Nodup) (hi:X.N[i]?= some x) (hx:Loc X.env.scope x) (he:PE X e te) (ho:PIp X op ti) (hf:X.fn x=true∨X.env.scope.names.lookup x=some .local:=by first | exact .inl rfl | exact .inr rfl | assumption):
  PS X (.AugAssign (.Name x pos') op e pos) (Mr i te ti):=by
 intro pins s σ H D I h
 obtain⟨v,e1,h⟩:=h
 obtain⟨m,hn,hl⟩:=I.loc
 have vis:Vis X.env.scope x:=by rcases hx with k | k; exact .inl k; exact .inr (.inl k)
 obtain⟨u,r,l⟩:=hl i x v hi e1 vis
 refine wpAny_AugAssign_Name ?_
 have go:wpAny (model X.prog X.w) X.A (eval e X.env) (fun w s₂=>wpAny (model X.prog X.w) X.A (inplaceOp op u w) (fun r s₃=>wpAny (model X.prog X.w) X.A (storeName X.env x r) (fun _=>SP X pins D .next) X.xe s₃) X.xe s₂) X.xe s:=by
  refine thn (he pins s σ H _ I h) fun w s1 ⟨y,H1,I1,r1,q1⟩=>?_
  refine thn (ho pins s1 σ H1 v y u w _ I1 r r1 q1) fun z s2 ⟨zv,H2,I2,r2,q2⟩=>?_
  exact rf I2 hN hi hx r2 (fun s3 I3=>⟨_,H2,I3,q2⟩) hf
 rcases l with⟨hk,hm⟩ | ⟨hk,c,hc,hcell⟩
 ·exact wpAny_loadName_local I.ok.kind hk hn hm go
 ·rcases hk with hk | hk
  ·exact wpAny_loadName_cell I.ok.kind hk hc hcell go
  ·rcases hx with k | k
   ·have:X.env.scope.names.lookup x=some .free:=hk
    rw [k] at this; cases this
   ·have:X.env.scope.names.lookup x=some .free:=hk
    rw [k] at this; cases this
noncomputable def ipI (f:Int→Int→Int):TIp:=fun x y H Q=>∃i j,x=.int i∧y=.int j∧Q (.int (f i j)) H
theorem wX:PIp X .Add (ipI fun i j=>i+j):=by
 intro pins s σ H x y v u Q I r1 r2 h
 obtain⟨i,j,e1,e2,q⟩:=h
 subst e1; subst e2
 obtain⟨t,rfl⟩:=r1
 obtain⟨t',rfl⟩:=r2
 exact iadd_int ⟨.int _,H,I.tok _,⟨_,rfl⟩,q⟩
end
section
variable {X:Cx} {pos:Pos}
noncomputable def AL (c:TT) (tb:TS):TS:=fun D σ H=>∃W:Nat→St→Hp→Prop,(∃m,W m σ H)∧∀m σ H,W m σ H→
 c σ H fun b H1=>if b=true then∃N:St→Hp→Prop,(∀σ' H',N σ' H'→∃m',m' < m∧W m' σ' H')∧tb {D with nx:=N,ct:=N,bk:=D.nx} σ H1 else D.nx σ H1
theorem iV {c:Expr} {body:List Stmt} {tc:TT} {tb:TS} (hp:PassesOwn (model X.prog X.w) X.A X.env X.xe) (hc:PT X c tc) (hb:PSs X body tb):PS X (.While c body [] pos) (AL tc tb):=by
 intro pins s σ H D I h
 obtain⟨W,⟨m0,w0⟩,turn⟩:=h
 refine wpAny_While (codeAny_whileLoop (fun n s'=>∃σ' H',Inv X pins σ' H' s'∧W n σ' H') ?_ m0 ⟨σ,H,I,w0⟩)
 rintro n s1 ⟨σ1,H1,I1,w1⟩
 refine wpAny_passesOwn hp (thn (hc pins s1 σ1 H1 _ I1 (turn n σ1 H1 w1)) fun b s2 ⟨H2,I2,q2⟩=>?_)
 cases b with
 | true=>
  obtain⟨N,hN,q2⟩:=q2
  rw [if_pos rfl]
  refine wpAny_passesOwn hp (thn (hb pins s2 σ1 H2 _ I2 q2) fun f s3 q3=>?_)
  cases f with
  | next=>
   obtain⟨σ3,H3,I3,n3⟩:=q3
   obtain⟨m',hm,w3⟩:=hN σ3 H3 n3
   exact⟨m',hm,σ3,H3,I3,w3⟩
  | cont=>
   obtain⟨σ3,H3,I3,n3⟩:=q3
   obtain⟨m',hm,w3⟩:=hN σ3 H3 n3
   exact⟨m',hm,σ3,H3,I3,w3⟩
  | brk=>exact q3
  | ret v=>exact q3
 | false=>
  rw [if_neg Bool.false_ne_true]
  exact wpAny_execs_nil ⟨σ1,H2,I2,q2⟩
end
structure It where
 go:Nat→Hp→Prop
 yld:Nat→Hp→V→Hp→Prop
 stop:Nat→Hp→Prop
noncomputable def qC (X:Cx) (pins:List (Addr×Obj)) (H:Hp) (b:Addr):Prop:=
 H b=none∧b≠X.env.locals∧b∉X.fs∧(b∈X.ex∨X.s_0.heap.objs.size≤b)∧(∀x c,X.env.cells.lookup x=some c→c≠b)∧∀p∈X.pn++pins,p.1≠b
theorem Inv.fpOk {X:Cx} {pins:List (Addr×Obj)} {σ:St} {H H':Hp} {s:Shared} {b:Addr} (I:Inv X pins σ H s) (hb:s.heap.objs.size≤b) (hn:H' b=none):qC X pins H' b:=by
 refine⟨hn,Nat.ne_of_gt (Nat.lt_of_lt_of_le I.lt hb),I.nofs hb,.inr (Nat.le_trans I.sz hb),fun x c e z=>?_,fun p hp z=>?_⟩
 ·obtain⟨v,q⟩:=I.cell x c e
  exact absurd (Nat.lt_of_lt_of_le q.lt (by rw [z]; exact hb)) (Nat.lt_irrefl _)
 ·exact absurd (Nat.lt_of_lt_of_le (Heap.lt_size (I.pin p hp).1) (by rw [z]; exact hb)) (Nat.lt_irrefl _)
structure CG (P:Program) (w:World) (K:PySem.W.Frag) (tg:Expr) (J:It) (fp:List Addr) (it:Addr) (tn:Nat→Heap→Prop):Prop where
 mem:it∈fp
 obj:∀i h,tn i h→∀b∈fp,∃o,h.get? b=some o∧∀v,o.data≠.cell v
 keep:∀i h h',tn i h→(∀b∈fp,∀o,h.get? b=some o→h'.get? b=some o)→tn i h'
 item:∀(X:Cx),X.prog=P→X.w=w→X.K=K→X.calm=true→∀(i:Nat) (pins:List (Addr×Obj)) (s:Shared) (σ:St) (H:Hp) (E:Value→Shared→Prop),Inv X pins σ H s→(∀b∈fp,qC X pins H b)→tn i s.heap→J.go i H→
  wpAny (model P w) X.A (pyNext (.ref it)) (fun r s1=>∃u,r=some u∧
   wpAny (model P w) X.A (letOwnedTupleGo tg (.ref it) u) (fun _ s2=>∃x H',Inv X pins σ H' s2∧RelV x u∧J.yld i H x H'∧tn (i+1) s2.heap∧∀b∈fp,H' b=none) E s1) E s
 done:∀(X:Cx),X.prog=P→X.w=w→X.K=K→X.calm=true→∀(i:Nat) (pins:List (Addr×Obj)) (s:Shared) (σ:St) (H:Hp) (E:Value→Shared→Prop),Inv X pins σ H s→(∀b∈fp,qC X pins H b)→tn i s.heap→J.stop i H→
  wpAny (model P w) X.A (pyNext (.ref it)) (fun r s1=>r=none∧Inv X pins σ H s1) E s
 self:∀(A:Around) (i:Nat) (s:Shared) (Q:Value→Shared→Prop) (E:Value→Shared→Prop),tn i s.heap→Q (.ref it) s→wpAny (model P w) A (pyIter (.ref it)) Q E s
noncomputable abbrev TI:=St→Hp→(It→Hp→Prop)→Prop
noncomputable def PIE (X:Cx) (pins:List (Addr×Obj)) (σ:St) (tg:Expr) (R:It→Hp→Prop) (itv:Value) (s2:Shared):Prop:=
 ∃(it:Addr) (fp:List Addr) (tn:Nat→Heap→Prop) (J:It) (H':Hp),itv=.ref it∧Inv X pins σ H' s2∧CG X.prog X.w X.K tg J fp it tn∧tn 0 s2.heap∧(∀b∈fp,qC X pins H' b)∧R J H'
noncomputable def PI (X:Cx) (tg iter:Expr) (wi:TI):Prop:=
 ∀(pins:List (Addr×Obj)) (s:Shared) (σ:St) (H:Hp) (R:It→Hp→Prop),Inv X pins σ H s→wi σ H R→
  wpAny (model X.prog X.w) X.A (eval iter X.env) (fun v s1=>wpAny (model X.prog X.w) X.A (pyIter v) (PIE X pins σ tg R) X.xe s1) X.xe s
theorem GB {M:Model} {A:Around} {E:Value→Shared→Prop} {s:Shared} {tg:Expr} {it:Addr} {u:Value} {o:Obj} {n:String} {vs:Array Value} {Q:Unit→Shared→Prop} (ho:s.heap.get? it=some o) (hc:o.cls=.type n) (hd:o.data=.fields vs)
  (hn:["enumerate","zip","dict_itemiterator","dict_reverseitemiterator","odict_iterator","itertools.zip_longest","itertools.pairwise"].contains n=false) (hQ:Q () s):wpAny M A (letOwnedTupleGo tg (.ref it) u) Q E s:=by
 unfold letOwnedTupleGo
 cases tg <;> first
  | exact wpAny_pure hQ
  | (cases u <;> first
    | exact wpAny_pure hQ
    | (refine wpAny_bind (wpAny_load ho ?_)
       rw [hc,hd]
       show wpAny M A (if (["enumerate","zip","dict_itemiterator","dict_reverseitemiterator","odict_iterator","itertools.zip_longest","itertools.pairwise"].contains n && vs[0]? == some (rawInt _))=true then _ else _) Q E s
       rw [if_neg (by intro h; rw [hn,Bool.false_and] at h; cases h)]
       exact wpAny_pure hQ))
noncomputable def Itl (K:PySem.W.Frag) (a:Addr):It:=
 ⟨fun i H=>∃xs x,SqL K H a xs∧xs[i]?= some x,fun i H x H'=>H'=H∧∀xs,SqL K H a xs→xs[i]?= some x,fun i H=>∃xs,SqL K H a xs∧xs.length≤i⟩
noncomputable def Itr (lo:Int) (n:Nat):It:=⟨fun i _=>i < n,fun i H x H'=>H'=H∧x=.int (lo+i),fun i _=>n≤i⟩
theorem DU {P:Program} {w:World} {K:PySem.W.Frag} {tg:Expr} (a it:Addr):CG P w K tg (Itl K a) [it] it (fun i h=>h.IsListIter it a i) where
 mem:=by simp
 obj:=fun i h st b hb=>by
  have e:b=it:=by simpa using hb
  subst e
  obtain⟨o,e,c,d⟩:=st
  exact⟨o,e,fun v z=>by rw [d] at z; cases z⟩
 keep:=fun i h h' st k=>st.at fun o e=>k it (by simp) o e
 item:=by
  intro X hP hw hK hc i pins s σ H E I hf st hg
  subst hP hw hK
  obtain⟨xs,x,hq,hx⟩:=hg
  obtain⟨its,rv,p,hz⟩:=I.list hq
  obtain⟨u,hu,ru⟩:=rv.get hx
  obtain⟨f0,f1,f2,f3,f4,f5⟩:=hf it (by simp)
  refine wpAny_pyNext_list_item st p.isList (x:=u) (by simpa using hu) fun h' st' sb=>?_
  have I1:Inv X pins σ H {s with heap:=h'}:=I.turned (t':=s.toks) (fun b o hb e=>(sb.2 b hb).trans e) f0 f1 f3 f4 f5
  obtain⟨o,e,c,d⟩:=id st'
  exact⟨u,rfl,GB (s:={s with heap:=h'}) e c d (by decide) ⟨x,H,I1,ru,⟨rfl,fun ys hy=>by rw [I.list_inj hy hq]; exact hx⟩,st',fun b hb=>(hf b hb).1⟩⟩
 done:=by
  intro X hP hw hK hc i pins s σ H E I hf st hg
  subst hP hw hK
  obtain⟨xs,hq,hx⟩:=hg
  obtain⟨its,rv,p,hz⟩:=I.list hq
  obtain⟨f0,f1,f2,f3,f4,f5⟩:=hf it (by simp)
  have hl:=rv.length
  exact wpAny_pyNext_list_end (I.ok.hd hc) st p.isList (by simp; omega) fun h' eb=>⟨rfl,I.turned (t':=s.toks) (fun b o hb e=>eb b o hb e) f0 f1 f3 f4 f5⟩
 self:=fun _ _ _ _ _ st h=>wpAny_pyIter_listiter st h
theorem AK {P:Program} {w:World} {K:PySem.W.Frag} {tg:Expr} (it:Addr) (lo:Int) (n:Nat):CG P w K tg (Itr lo n) [it] it (fun i h=>IsRangeIter h it (lo+(i:Nat)*1) ((n:Int) - (i:Nat)) 1) where
 mem:=by simp
 obj:=fun i h st b hb=>by
  have e:b=it:=by simpa using hb
  subst e
  exact⟨_,st,fun v z=>by
   have z':Data.fields _=Data.cell v:=z
   cases z'⟩
 keep:=fun i h h' st k=>k it (by simp) _ st
 item:=by
  intro X hP hw hK hc i pins s σ H E I hf st hg
  subst hP hw hK
  obtain⟨f0,f1,f2,f3,f4,f5⟩:=hf it (by simp)
  have W:=Walks.range (prog:=X.prog) (w:=X.w) (I.ok.hd hc) it lo 1 n
  refine W.item i s _ _ hg st fun v h' tk hv st' kk=>?_
  obtain⟨t,rfl⟩:=hv
  have I1:Inv X pins σ H {s with heap:=h',toks:=tk}:=I.turned (fun b o hb e=>kk b o (by simpa using hb) e) f0 f1 f3 f4 f5
  refine⟨_,rfl,GB (s:={s with heap:=h',toks:=tk}) (n:="range_iterator") st' rfl rfl (by decide) ⟨.int (lo+i),H,I1,⟨t,?_⟩,⟨rfl,rfl⟩,st',fun b hb=>(hf b hb).1⟩⟩
  rw [Int.mul_one]
 done:=by
  intro X hP hw hK hc i pins s σ H E I hf st hg
  subst hP hw hK
  obtain⟨f0,f1,f2,f3,f4,f5⟩:=hf it (by simp)
  exact wpAny_pyNext_range_end (I.ok.hd hc) st (by have:n≤i:=hg; omega) fun h' eb=>⟨rfl,I.turned (t':=s.toks) (fun b o hb e=>eb b o hb e) f0 f1 f3 f4 f5⟩
 self:=fun _ _ _ _ _ st h=>wpAny_pyIter_rangeiter st h
end L2
namespace L2
open PySem PySem.Spec PyProof.Rows
section
variable {X:Cx} {tg:Expr}
noncomputable def LF (K:PySem.W.Frag) (tl:TE):TI:=fun σ H R=>tl σ H fun x H1=>∃a,x=.ref a∧(∃xs,SqL K H1 a xs)∧R (Itl K a) H1
theorem bQ {l:Expr} {tl:TE} (hl:PE X l tl):PI X tg l (LF X.K tl):=by
 intro pins s σ H R I h
 refine thn (hl pins s σ H _ I h) fun v s1 ⟨x,H1,I1,r1,q1⟩=>?_
 obtain⟨a,e,⟨xs,hq⟩,q⟩:=q1
 subst e
 cases r1
 obtain⟨its,rv,p,hz⟩:=I1.list hq
 refine wpAny_pyIter_list p.isList ?_
 refine⟨s1.heap.objs.size,[s1.heap.objs.size],_,_,H1,rfl,I1.kept (t':=s1.toks) fun b o e=>Heap.get?_push_of_some _ e,DU a _,⟨_,Heap.get?_push_size _ rfl,rfl,rfl⟩,fun b hb=>?_,q⟩
 have e:b=s1.heap.objs.size:=by simpa using hb
 subst e
 exact I1.fpOk (Nat.le_refl _) (I1.hok.fresh (Nat.le_refl _))
theorem yX {pins:List (Addr×Obj)} {σ:St} {H:Hp} {s:Shared} {R:It→Hp→Prop} {E:Value→Shared→Prop} {lo hi:Int} {t u v:Tok} {tk:Nat} (I:Inv X pins σ H s) (h1:-(2 ^ 62)≤lo) (h2:lo < 2 ^ 62) (h3:-(2 ^ 62)≤hi) (h4:hi < 2 ^ 62)
  (q:R (Itr lo (hi - lo).toNat) H):wpAny (model X.prog X.w) X.A (pyIter (.ref s.heap.objs.size)) (PIE X pins σ tg R) E {s with heap:=s.heap.push {cls:=.type "range",data:=.fields #[.int lo t,.int hi u,.int 1 v]},toks:=tk}:=by
 refine wpAny_pyIter_range (IsRange.new ..) (small_one h1 h2 h3 h4) ?_
 have I1:Inv X pins σ H {s with heap:=s.heap.push {cls:=.type "range",data:=.fields #[.int lo t,.int hi u,.int 1 v]},toks:=tk}:=I.kept fun b o e=>Heap.get?_push_of_some _ e
 refine⟨(s.heap.push {cls:=.type "range",data:=.fields #[.int lo t,.int hi u,.int 1 v]}).objs.size,[(s.heap.push {cls:=.type "range",data:=.fields #[.int lo t,.int hi u,.int 1 v]}).objs.size],_,_,H,rfl,
  I1.kept (t':=tk) fun b o e=>Heap.get?_push_of_some _ e,AK _ lo (hi - lo).toNat,?_,fun b hb=>?_,q⟩
 ·have e1:lo+((0:Nat):Int)*1=lo:=by simp
  have e2:(((hi - lo).toNat:Nat):Int) - ((0:Nat):Int)=Builtin.Range.rangeSize lo hi 1:=by rw [rangeSize_one]; split <;> omega
  show IsRangeIter _ _ (lo+((0:Nat):Int)*1) ((((hi - lo).toNat:Nat):Int) - ((0:Nat):Int)) 1
  rw [e1,e2]
  exact Heap.get?_push_size _ rfl
 ·have e:b=(s.heap.push {cls:=.type "range",data:=.fields #[.int lo t,.int hi u,.int 1 v]}).objs.size:=by simpa using hb
  subst e
  exact I1.fpOk (Nat.le_refl _) (I1.hok.fresh (Nat.le_refl _))
noncomputable def LE (ta:TA):TI:=fun σ H R=>ta σ H fun vs H1=>∃j:Int,vs=[.int j]∧-(2 ^ 62)≤j∧j < 2 ^ 62∧R (Itr 0 j.toNat) H1
noncomputable def LD (ta:TA):TI:=fun σ H R=>ta σ H fun vs H1=>∃i j:Int,vs=[.int i,.int j]∧(-(2 ^ 62)≤i∧i < 2 ^ 62∧-(2 ^ 62)≤j∧j < 2 ^ 62)∧R (Itr i (j - i).toNat) H1
theorem d8 {a:Expr} {ta:TA} {p pos:Pos} (hg:Gl X "range") (hm:X.mg "range"=none) (ha:PA X [a] ta) (hs:starEach [a] X.env=[(false,eval a X.env)]:=by rfl):PI X tg (.Call (.Name "range" p) [a] [] pos) (LE ta):=by
 intro pins s σ H R I h
 refine Call_ (mK I hg hm boot_range (PyProof.Rows.callWith_type1 (thn (ha pos pins s σ H _ I h) fun us s1 ⟨vs,H1,I1,r1,q1⟩=>?_) hs rfl))
 obtain⟨j,e,q1,q2,q⟩:=q1
 subst e
 cases r1 with
 | cons r rr=>
  cases rr
  obtain⟨t,rfl⟩:=r
  exact call_range_1 (yX I1 (by omega) (by omega) q1 q2 (by simpa using q))
theorem vg {a b:Expr} {ta:TA} {p pos:Pos} (hg:Gl X "range") (hm:X.mg "range"=none) (ha:PA X [a,b] ta) (hs:starEach [a,b] X.env=[(false,eval a X.env),(false,eval b X.env)]:=by rfl) (hs2:starEach [b] X.env=[(false,eval b X.env)]:=by rfl):
  PI X tg (.Call (.Name "range" p) [a,b] [] pos) (LD ta):=by
 intro pins s σ H R I h
 refine Call_ (mK I hg hm boot_range (PyProof.Rows.callWith_type1 (thn (ha pos pins s σ H _ I h) fun us s1 ⟨vs,H1,I1,r1,q1⟩=>?_) (by rw [hs,hs2]) (by rw [hs2]; rfl)))
 obtain⟨i,j,e,⟨q1,q2,q3,q4⟩,q⟩:=q1
 subst e
 cases r1 with
 | cons r rr=>
  cases rr with
  | cons r' rr=>
   cases rr
   obtain⟨t,rfl⟩:=r
   obtain⟨t',rfl⟩:=r'
   exact call_range_2 (yX I1 q1 q2 q3 q4 q)
noncomputable def Mo (wi:TI) (g:TG) (tb:TS):TS:=fun D σ H=>wi σ H fun J H1=>∃W:Nat→Nat→St→Hp→Prop,(∃m,W 0 m σ H1)∧∀i m σ H,W i m σ H→
 (J.stop i H∧D.nx σ H)∨(J.go i H∧∃N:St→Hp→Prop,(∀σ' H',N σ' H'→∃m',m' < m∧W (i+1) m' σ' H')∧∀x H',J.yld i H x H'→g x σ H' fun σ2 H2=>tb {D with nx:=N,ct:=N,bk:=D.nx} σ2 H2)
noncomputable def rW (fp:List Addr) (h:Heap):List (Addr×Obj):=fp.filterMap fun b=>(h.get? b).map fun o=>(b,o)
theorem mH {fp:List Addr} {h:Heap} {b:Addr} {o:Obj} (hb:b∈fp) (e:h.get? b=some o):(b,o)∈rW fp h:=List.mem_filterMap.mpr ⟨b,hb,by rw [e]; rfl⟩
theorem Er {fp:List Addr} {h:Heap} {p:Addr×Obj} (hp:p∈rW fp h):p.1∈fp∧h.get? p.1=some p.2:=by
 obtain⟨b,hb,e⟩:=List.mem_filterMap.mp hp
 cases q:h.get? b with
 | none=>rw [q] at e; cases e
 | some o=>
  rw [q] at e
  have e':(b,o)=p:=Option.some.inj e
  subst e'
  exact⟨hb,q⟩
theorem Inv.pinned {pins:List (Addr×Obj)} {σ:St} {H:Hp} {s:Shared} {fp:List Addr} (I:Inv X pins σ H s) (hf:∀b∈fp,qC X pins H b) (ho:∀b∈fp,∃o,s.heap.get? b=some o∧∀v,o.data≠.cell v):Inv X (pins++rW fp s.heap) σ H s:=
 I.pins_of fun p hp=>(List.mem_append.mp hp).elim (fun z=>I.pin p (List.mem_append_right _ z)) fun z=>by
  obtain⟨hb,e⟩:=Er z
  obtain⟨f0,f1,f2,_⟩:=hf p.1 hb
  obtain⟨o,e',d⟩:=ho p.1 hb
  rw [e] at e'; cases e'
  exact⟨e,f0,f1,f2,d⟩
theorem Inv.unpinned {pins pl:List (Addr×Obj)} {σ:St} {H:Hp} {s:Shared} (I:Inv X (pins++pl) σ H s):Inv X pins σ H s:=I.pins_of fun p hp=>I.pin p (List.mem_append_right _ (List.mem_append_left _ hp))
theorem cV {iter:Expr} {body:List Stmt} {wi:TI} {g:TG} {tb:TS} {pos:Pos} (hp:PassesOwn (model X.prog X.w) X.A X.env X.xe) (hc:X.calm=true) (hi:PI X tg iter wi) (hg:PG X tg g) (hb:PSs X body tb)
  (hs:∀x,foldedSetIterable iter X.env x=pure x:=by intro _; rfl):PS X (.For tg iter body [] pos) (Mo wi g tb):=by
 intro pins s σ H D I h
 refine wpAny_For (thn (hi pins s σ H _ I h) fun v s1 h1=>thn h1 fun itv s2 h2=>?_) hs
 obtain⟨it,fp,tn,J,H2,e,I2,T,st2,f2,W,⟨m0,w0⟩,turn⟩:=h2
 subst e
 have stat:∀{H':Hp},(∀b∈fp,H' b=none)→∀b∈fp,qC X pins H' b:=fun hn b hb=>⟨hn b hb,(f2 b hb).2⟩
 refine codeAny_forLoop_any (fun n s'=>∃i σ' H',Inv X pins σ' H' s'∧tn i s'.heap∧(∀b∈fp,H' b=none)∧W i n σ' H') ?_ m0 ⟨0,σ,H2,I2,st2,fun b hb=>(f2 b hb).1,w0⟩
 rintro n s3 ⟨i,σ3,H3,I3,st3,fr3,w3⟩
 rcases turn i n σ3 H3 w3 with⟨stop,qn⟩ | ⟨go,N,hN,step⟩
 ·refine wpAny_passesOwn hp (thn (T.done X rfl rfl rfl hc i pins s3 σ3 H3 X.xe I3 (stat fr3) st3 stop) fun r s4 ⟨hr,I4⟩=>?_)
  subst hr
  exact wpAny_execs_nil ⟨σ3,H3,I4,qn⟩
 ·refine wpAny_passesOwn hp (thn (T.item X rfl rfl rfl hc i pins s3 σ3 H3 X.xe I3 (stat fr3) st3 go) fun r s4 ⟨u,hr,h4⟩=>?_)
  subst hr
  refine wpAny_passesOwn hp (thn h4 fun _ s5 ⟨x,H5,I5,r5,y5,st5,fr5⟩=>?_)
  have I5':=I5.pinned (stat fr5) (T.obj _ _ st5)
  refine wpAny_passesOwn hp (thn (hg _ s5 σ3 H5 x u _ I5' r5 (step x H5 y5)) fun _ s6 ⟨σ6,H6,I6,q6⟩=>?_)
  refine wpAny_passesOwn hp (thn (hb _ s6 σ6 H6 _ I6 q6) fun f s7 q7=>?_)
  have jR:∀{σ7:St} {H7:Hp},Inv X (pins++rW fp s5.heap) σ7 H7 s7→N σ7 H7→∃m,m < n∧∃i σ' H',Inv X pins σ' H' s7∧tn i s7.heap∧(∀b∈fp,H' b=none)∧W i m σ' H':=fun {σ7 H7} I7 n7=>by
   obtain⟨m',hm,w7⟩:=hN σ7 H7 n7
   refine⟨m',hm,i+1,σ7,H7,I7.unpinned,T.keep _ _ _ st5 fun b hb o e=>(I7.pin (b,o) (List.mem_append_right _ (List.mem_append_right _ (mH hb e)))).1,fun b hb=>?_,w7⟩
   obtain⟨o,e,d⟩:=T.obj _ _ st5 b hb
   exact(I7.pin (b,o) (List.mem_append_right _ (List.mem_append_right _ (mH hb e)))).2.1
  cases f with
  | next=>obtain⟨σ7,H7,I7,n7⟩:=q7; exact jR I7 n7
  | cont=>obtain⟨σ7,H7,I7,n7⟩:=q7; exact jR I7 n7
  | brk=>obtain⟨σ7,H7,I7,q7⟩:=q7; exact⟨σ7,H7,I7.unpinned,q7⟩
  | ret v=>obtain⟨x7,σ7,H7,I7,r7,q7⟩:=q7; exact⟨x7,σ7,H7,I7.unpinned,r7,q7⟩
end
theorem eZ {K:PySem.W.Frag} {a:Addr} {xs:List V} {g:TG} {tb:TS} {D:t6} {σ:St} {H:Hp} (Pv:Nat→St→Hp→Prop) (h0:Pv 0 σ H) (hl:∀i σ H,i≤xs.length→Pv i σ H→SqL K H a xs)
  (hs:∀i x σ H,xs[i]?= some x→Pv i σ H→g x σ H fun σ2 H2=>tb {D with nx:=Pv (i+1),ct:=Pv (i+1),bk:=D.nx} σ2 H2) (hd:∀σ H,Pv xs.length σ H→D.nx σ H):
  ∃W:Nat→Nat→St→Hp→Prop,(∃m,W 0 m σ H)∧∀i m σ H,W i m σ H→
   ((Itl K a).stop i H∧D.nx σ H)∨((Itl K a).go i H∧∃N:St→Hp→Prop,(∀σ' H',N σ' H'→∃m',m' < m∧W (i+1) m' σ' H')∧∀x H',(Itl K a).yld i H x H'→g x σ H' fun σ2 H2=>tb {D with nx:=N,ct:=N,bk:=D.nx} σ2 H2):=by
 refine⟨fun i m σ H=>m=xs.length - i∧i≤xs.length∧Pv i σ H,⟨xs.length,by simp,Nat.zero_le _,h0⟩,?_⟩
 rintro i m σ H ⟨rfl,hi,p⟩
 have q:=hl i σ H hi p
 by_cases hlt:i < xs.length
 ·refine .inr ⟨⟨xs,xs[i],q,by simp [hlt]⟩,Pv (i+1),fun σ' H' p'=>⟨xs.length - (i+1),by omega,rfl,hlt,p'⟩,fun x H' y=>?_⟩
  obtain⟨e,y⟩:=y
  subst e
  exact hs i x σ _ (y xs q) p
 ·have e:i=xs.length:=by omega
  subst e
  exact .inl ⟨⟨xs,q,Nat.le_refl _⟩,hd σ H p⟩
theorem i7 {lo:Int} {n:Nat} {g:TG} {tb:TS} {D:t6} {σ:St} {H:Hp} (Pv:Nat→St→Hp→Prop) (h0:Pv 0 σ H)
  (hs:∀i σ H,i < n→Pv i σ H→g (.int (lo+i)) σ H fun σ2 H2=>tb {D with nx:=Pv (i+1),ct:=Pv (i+1),bk:=D.nx} σ2 H2) (hd:∀σ H,Pv n σ H→D.nx σ H):
  ∃W:Nat→Nat→St→Hp→Prop,(∃m,W 0 m σ H)∧∀i m σ H,W i m σ H→
   ((Itr lo n).stop i H∧D.nx σ H)∨((Itr lo n).go i H∧∃N:St→Hp→Prop,(∀σ' H',N σ' H'→∃m',m' < m∧W (i+1) m' σ' H')∧∀x H',(Itr lo n).yld i H x H'→g x σ H' fun σ2 H2=>tb {D with nx:=N,ct:=N,bk:=D.nx} σ2 H2):=by
 refine⟨fun i m σ H=>m=n - i∧i≤n∧Pv i σ H,⟨n,by simp,Nat.zero_le _,h0⟩,?_⟩
 rintro i m σ H ⟨rfl,hi,p⟩
 by_cases hlt:i < n
 ·refine .inr ⟨hlt,Pv (i+1),fun σ' H' p'=>⟨n - (i+1),by omega,rfl,hlt,p'⟩,fun x H' y=>?_⟩
  obtain⟨e,y⟩:=y
  subst e y
  exact hs i σ _ hlt p
 ·have e:i=n:=by omega
  subst e
  exact .inl ⟨Nat.le_refl _,hd σ H p⟩
theorem j7 {c:TT} {tb:TS} {D:t6} {σ:St} {H:Hp} (Pv:St→Hp→Prop) (μ:St→Hp→Nat) (h0:Pv σ H)
  (hs:∀σ H,Pv σ H→c σ H fun b H1=>if b=true then tb {D with nx:=fun σ' H'=>Pv σ' H'∧μ σ' H' < μ σ H,ct:=fun σ' H'=>Pv σ' H'∧μ σ' H' < μ σ H,bk:=D.nx} σ H1 else D.nx σ H1)
  (mono:∀σ H Q Q',(∀b H1,Q b H1→Q' b H1)→c σ H Q→c σ H Q'):AL c tb D σ H:=by
 refine⟨fun m σ H=>m=μ σ H∧Pv σ H,⟨_,rfl,h0⟩,?_⟩
 rintro m σ H ⟨rfl,p⟩
 refine mono σ H _ _ (fun b H1 q=>?_) (hs σ H p)
 cases b with
 | true=>exact⟨_,fun σ' H' ⟨p',l⟩=>⟨_,l,rfl,p'⟩,q⟩
 | false=>exact q
end L2
namespace L2
open PySem PySem.Spec PyProof.Rows
noncomputable abbrev R2:=V→V→Hp→VK→Prop
noncomputable def OpR (X:Cx) (f:Value→Value→Sem Value) (r:R2):Prop:=
 ∀(pins:List (Addr×Obj)) (s:Shared) (σ:St) (H:Hp) (x y:V) (v u:Value) (Q:VK),Inv X pins σ H s→RelV x v→RelV y u→r x y H Q→
  wpAny (model X.prog X.w) X.A (f v u) (EP X pins σ Q) X.xe s
noncomputable def UnR (X:Cx) (f:Value→Sem Value) (r:V→Hp→VK→Prop):Prop:=
 ∀(pins:List (Addr×Obj)) (s:Shared) (σ:St) (H:Hp) (x:V) (v:Value) (Q:VK),Inv X pins σ H s→RelV x v→r x H Q→
  wpAny (model X.prog X.w) X.A (f v) (EP X pins σ Q) X.xe s
noncomputable def gn (X:Cx) (f:Value) (r:List V→Hp→VK→Prop):Prop:=
 ∀(pins:List (Addr×Obj)) (s:Shared) (σ:St) (H:Hp) (xs:List V) (us:List Value) (Q:VK),Inv X pins σ H s→Vals xs us→r xs H Q→
  wpAny (model X.prog X.w) X.A (call f us) (EP X pins σ Q) X.xe s
noncomputable def MY (X:Cx) (r:V→Hp→(Bool→Hp→Prop)→Prop):Prop:=
 ∀(pins:List (Addr×Obj)) (s:Shared) (σ:St) (H:Hp) (x:V) (v:Value) (Q:Bool→Hp→Prop),Inv X pins σ H s→RelV x v→r x H Q→
  wpAny (model X.prog X.w) X.A (truthy v) (TP X pins σ Q) X.xe s
noncomputable def tOp (r:R2) (ta tb:TE):TE:=fun σ H Q=>ta σ H fun x H1=>tb σ H1 fun y H2=>r x y H2 Q
noncomputable def tUn (r:V→Hp→VK→Prop) (ta:TE):TE:=fun σ H Q=>ta σ H fun x H1=>r x H1 Q
noncomputable def rI (C:Int→Int→Prop) (g:Int→Int→V):R2:=fun x y H Q=>∃i j,x=.int i∧y=.int j∧C i j∧Q (g i j) H
noncomputable def rI0 (g:Int→Int→V):R2:=fun x y H Q=>∃i j,x=.int i∧y=.int j∧Q (g i j) H
noncomputable def rU (g:Int→V):V→Hp→VK→Prop:=fun x H Q=>∃i,x=.int i∧Q (g i) H
section
variable {X:Cx} {a b c:Expr} {ta tb tc:TE} {pos:Pos}
theorem KI (ha:PE X a ta) (hb:PE X b tb) {pins:List (Addr×Obj)} {s:Shared} {σ:St} {H:Hp} {R:V→V→Hp→Prop} (I:Inv X pins σ H s)
  (h:ta σ H fun x H1=>tb σ H1 fun y H2=>R x y H2) {Q:Value→Shared→Prop} {f:Value→Value→Sem Value}
  (hf:∀v u s2 x y H2,Inv X pins σ H2 s2→RelV x v→RelV y u→R x y H2→wpAny (model X.prog X.w) X.A (f v u) Q X.xe s2):
  wpAny (model X.prog X.w) X.A (eval a X.env) (fun v s₁=>wpAny (model X.prog X.w) X.A (eval b X.env) (fun u s₂=>wpAny (model X.prog X.w) X.A (f v u) Q X.xe s₂) X.xe s₁) X.xe s:=by
 refine thn (ha pins s σ H _ I h) fun v s1 ⟨x,H1,I1,r1,q1⟩=>?_
 refine thn (hb pins s1 σ H1 _ I1 q1) fun u s2 ⟨y,H2,I2,r2,q2⟩=>?_
 exact hf v u s2 x y H2 I2 r1 r2 q2
theorem aR {op:Operator} {r:R2} (ho:OpR X (binaryOp op) r) (ha:PE X a ta) (hb:PE X b tb):PE X (.BinOp a op b pos) (tOp r ta tb):=by
 intro pins s σ H Q I h
 exact wpAny_BinOp (KI ha hb I h fun v u s2 x y H2 I2 rx ry q=>ho pins s2 σ H2 x y v u Q I2 rx ry q)
theorem rY {op:UnaryOp} {r:V→Hp→VK→Prop} (ho:UnR X (unaryOp op) r) (ha:PE X a ta):PE X (.UnaryOp op a pos) (tUn r ta):=by
 intro pins s σ H Q I h
 exact UnaryOp_ (thn (ha pins s σ H _ I h) fun v s1 ⟨x,H1,I1,r1,q1⟩=>ho pins s1 σ H1 x v Q I1 r1 q1)
theorem opI {f:Value→Value→Sem Value} {C:Int→Int→Prop} {g:Int→Int→Int}
  (rule:∀(i j:Int) (t u:Tok) (s:Shared) (Q:Value→Shared→Prop) (E:Value→Shared→Prop),C i j→Q (.int (g i j) s.toks) {s with toks:=s.toks+1}→wpAny (model X.prog X.w) X.A (f (.int i t) (.int j u)) Q E s):
  OpR X f (rI C fun i j=>.int (g i j)):=by
 intro pins s σ H x y v u Q I rx ry h
 obtain⟨i,j,rfl,rfl,hc,q⟩:=h
 obtain⟨t,rfl⟩:=rx
 obtain⟨t',rfl⟩:=ry
 exact rule i j t t' s _ _ hc ⟨.int (g i j),H,I.tok _,⟨_,rfl⟩,q⟩
theorem Ls {f:Value→Value→Sem Value} {g:Int→Int→Int}
  (rule:∀(i j:Int) (t u:Tok) (s:Shared) (Q:Value→Shared→Prop) (E:Value→Shared→Prop),Q (.int (g i j) s.toks) {s with toks:=s.toks+1}→wpAny (model X.prog X.w) X.A (f (.int i t) (.int j u)) Q E s):
  OpR X f (rI0 fun i j=>.int (g i j)):=by
 intro pins s σ H x y v u Q I rx ry h
 obtain⟨i,j,rfl,rfl,q⟩:=h
 obtain⟨t,rfl⟩:=rx
 obtain⟨t',rfl⟩:=ry
 exact rule i j t t' s _ _ ⟨.int (g i j),H,I.tok _,⟨_,rfl⟩,q⟩
theorem HZ {f:Value→Value→Sem Value} {g:Int→Int→Bool}
  (rule:∀(i j:Int) (t u:Tok) (s:Shared) (Q:Value→Shared→Prop) (E:Value→Shared→Prop),Q (.bool (g i j)) s→wpAny (model X.prog X.w) X.A (f (.int i t) (.int j u)) Q E s):
  OpR X f (rI0 fun i j=>.bl (g i j)):=by
 intro pins s σ H x y v u Q I rx ry h
 obtain⟨i,j,rfl,rfl,q⟩:=h
 obtain⟨t,rfl⟩:=rx
 obtain⟨t',rfl⟩:=ry
 exact rule i j t t' s _ _ ⟨.bl (g i j),H,I,rfl,q⟩
theorem cu:OpR X (binaryOp .Add) (rI0 fun i j=>.int (i+j)):=Ls fun _ _ _ _ _ _ _ q=>add_int q
theorem fE:OpR X (binaryOp .Sub) (rI0 fun i j=>.int (i - j)):=Ls fun _ _ _ _ _ _ _ q=>sub_int q
theorem Gb:OpR X (binaryOp .Mod) (rI (fun _ j=>0 < j) fun i j=>.int (i % j)):=opI fun i j _ _ _ _ _ hc q=>by
 have h1:(0:Int) < j:=hc
 exact mod_int' (by omega) (by rw [Int.fmod_eq_emod_of_nonneg i (by omega)]; exact q)
theorem unI {f:Value→Sem Value} {g:Int→Int}
  (rule:∀(i:Int) (t:Tok) (s:Shared) (Q:Value→Shared→Prop) (E:Value→Shared→Prop),Q (.int (g i) s.toks) {s with toks:=s.toks+1}→wpAny (model X.prog X.w) X.A (f (.int i t)) Q E s):
  UnR X f (rU fun i=>.int (g i)):=by
 intro pins s σ H x v Q I rx h
 obtain⟨i,rfl,q⟩:=h
 obtain⟨t,rfl⟩:=rx
 exact rule i t s _ _ ⟨.int (g i),H,I.tok _,⟨_,rfl⟩,q⟩
theorem mf:UnR X (unaryOp .USub) (rU fun i=>.int (-i)):=unI fun _ _ _ _ _ q=>neg_int q
end
noncomputable def Lj:V→V→Bool
 | .non,.non=>true | .non,.int _=>true | .int _,.non=>true | .non,.bl _=>true | .bl _,.non=>true | .non,.str _=>true | .str _,.non=>true
 | .int _,.int _=>true | .bl _,.bl _=>true | .str _,.str _=>true | .byt _,.byt _=>true
 | .int _,.str _=>true | .str _,.int _=>true | .bl _,.str _=>true | .str _,.bl _=>true
 | _,_=>false
noncomputable def rEq:R2:=fun x y H Q=>Lj x y=true∧Q (.bl (decide (x=y))) H
noncomputable def rNe:R2:=fun x y H Q=>Lj x y=true∧Q (.bl (!decide (x=y))) H
theorem DG {i j:Int}:decide (V.int i=V.int j)=(i == j):=by
 rw [Bool.eq_iff_iff]
 simp
theorem GS {i j:Bool}:decide (V.bl i=V.bl j)=(i == j):=by
 rw [Bool.eq_iff_iff]
 simp
theorem DF {i j:Str}:decide (V.str i=V.str j)=(i == j):=by
 rw [Bool.eq_iff_iff]
 simp
theorem DH {i j:Array UInt8}:decide (V.byt i=V.byt j)=(i.toList == j.toList):=by
 rw [Bool.eq_iff_iff]
 cases i
 cases j
 simp
section
variable {X:Cx} {a b c:Expr} {ta tb tc:TE} {pos:Pos}
theorem bE {pins:List (Addr×Obj)} {σ:St} {H:Hp} {s:Shared} {Q:VK} {k k':Bool} (I:Inv X pins σ H s) (q:Q (.bl k) H) (e:k=k'):EP X pins σ Q (.bool k') s:=by
 subst e
 exact⟨.bl k,H,I,rfl,q⟩
theorem bN:OpR X (compareOp .Eq) rEq:=by
 intro pins s σ H x y v u Q I rx ry h
 obtain⟨hs,q⟩:=h
 cases x with
 | non=>
  cases rx
  cases y with
  | non=>cases ry; exact PySem.EqNone.eq_none_none (bE I q (by simp))
  | bl j=>cases ry; exact PySem.EqNone.eq_none_bool (bE I q (by simp))
  | int j=>obtain⟨t',rfl⟩:=ry; exact PySem.EqNone.eq_none_int (bE I q (by simp))
  | str j=>obtain⟨t',rfl⟩:=ry; exact PySem.EqNone.eq_none_str (bE I q (by simp))
  | _=>exact absurd (show false=true from hs) Bool.false_ne_true
 | bl i=>
  cases rx
  cases y with
  | non=>cases ry; exact PySem.EqNone.eq_bool_none (bE I q (by simp))
  | bl j=>cases ry; exact eq_bool (bE I q GS)
  | str j=>obtain⟨t',rfl⟩:=ry; exact PySem.EqMixed.eq_bool_str (bE I q (by simp))
  | _=>exact absurd (show false=true from hs) Bool.false_ne_true
 | int i=>
  obtain⟨t,rfl⟩:=rx
  cases y with
  | non=>cases ry; exact PySem.EqNone.eq_int_none (bE I q (by simp))
  | int j=>obtain⟨t',rfl⟩:=ry; exact eq_int (bE I q DG)
  | str j=>obtain⟨t',rfl⟩:=ry; exact PySem.EqMixed.eq_int_str (bE I q (by simp))
  | _=>exact absurd (show false=true from hs) Bool.false_ne_true
 | str i=>
  obtain⟨t,rfl⟩:=rx
  cases y with
  | non=>cases ry; exact PySem.EqNone.eq_str_none (bE I q (by simp))
  | bl j=>cases ry; exact PySem.EqMixed.eq_str_bool (bE I q (by simp))
  | int j=>obtain⟨t',rfl⟩:=ry; exact PySem.EqMixed.eq_str_int (bE I q (by simp))
  | str j=>obtain⟨t',rfl⟩:=ry; exact eq_str (bE I q DF)
  | _=>exact absurd (show false=true from hs) Bool.false_ne_true
 | byt i=>
  obtain⟨t,rfl⟩:=rx
  cases y with
  | byt j=>obtain⟨t',rfl⟩:=ry; exact PySem.W.eq_bytes (bE I q DH)
  | _=>exact absurd (show false=true from hs) Bool.false_ne_true
 | _=>cases y <;> exact absurd (show false=true from hs) Bool.false_ne_true
theorem Ga:OpR X (compareOp .NotEq) rNe:=by
 intro pins s σ H x y v u Q I rx ry h
 obtain⟨hs,q⟩:=h
 cases x with
 | non=>
  cases rx
  cases y with
  | non=>cases ry; exact PySem.EqNone.ne_none_none (bE I q (by simp))
  | bl j=>cases ry; exact PySem.EqNone.ne_none_bool (bE I q (by simp))
  | int j=>obtain⟨t',rfl⟩:=ry; exact PySem.EqNone.ne_none_int (bE I q (by simp))
  | str j=>obtain⟨t',rfl⟩:=ry; exact PySem.EqNone.ne_none_str (bE I q (by simp))
  | _=>exact absurd (show false=true from hs) Bool.false_ne_true
 | bl i=>
  cases rx
  cases y with
  | non=>cases ry; exact PySem.EqNone.ne_bool_none (bE I q (by simp))
  | bl j=>cases ry; exact ne_bool (bE I q (congrArg not GS))
  | str j=>obtain⟨t',rfl⟩:=ry; exact PySem.EqMixed.ne_bool_str (bE I q (by simp))
  | _=>exact absurd (show false=true from hs) Bool.false_ne_true
 | int i=>
  obtain⟨t,rfl⟩:=rx
  cases y with
  | non=>cases ry; exact PySem.EqNone.ne_int_none (bE I q (by simp))
  | int j=>obtain⟨t',rfl⟩:=ry; exact ne_int (bE I q (congrArg not DG))
  | str j=>obtain⟨t',rfl⟩:=ry; exact PySem.EqMixed.ne_int_str (bE I q (by simp))
  | _=>exact absurd (show false=true from hs) Bool.false_ne_true
 | str i=>
  obtain⟨t,rfl⟩:=rx
  cases y with
  | non=>cases ry; exact PySem.EqNone.ne_str_none (bE I q (by simp))
  | bl j=>cases ry; exact PySem.EqMixed.ne_str_bool (bE I q (by simp))
  | int j=>obtain⟨t',rfl⟩:=ry; exact PySem.EqMixed.ne_str_int (bE I q (by simp))
  | str j=>obtain⟨t',rfl⟩:=ry; exact ne_str (bE I q (congrArg not DF))
  | _=>exact absurd (show false=true from hs) Bool.false_ne_true
 | byt i=>
  obtain⟨t,rfl⟩:=rx
  cases y with
  | byt j=>obtain⟨t',rfl⟩:=ry; exact PySem.W.ne_bytes (bE I q (congrArg not DH))
  | _=>exact absurd (show false=true from hs) Bool.false_ne_true
 | _=>cases y <;> exact absurd (show false=true from hs) Bool.false_ne_true
theorem r8:OpR X (compareOp .Lt) (rI0 fun i j=>.bl (decide (i < j))):=HZ fun _ _ _ _ _ _ _ q=>lt_int q
theorem C9:OpR X (compareOp .LtE) (rI0 fun i j=>.bl (decide (i≤j))):=HZ fun _ _ _ _ _ _ _ q=>le_int q
theorem vm:OpR X (compareOp .Gt) (rI0 fun i j=>.bl (decide (j < i))):=HZ fun _ _ _ _ _ _ _ q=>gt_int q
theorem za:OpR X (compareOp .GtE) (rI0 fun i j=>.bl (decide (j≤i))):=HZ fun _ _ _ _ _ _ _ q=>ge_int q
theorem eM:OpR X (compareOp .Is) (fun x y H Q=>y=.non∧Q (.bl (decide (x=.non))) H):=by
 intro pins s σ H x y v u Q I rx ry h
 obtain⟨rfl,q⟩:=h
 cases ry
 refine is_none_gen (bE I q ?_)
 cases x <;> first
  | (cases rx; rfl)
  | (obtain⟨t,rfl⟩:=rx; rfl)
theorem HY:OpR X (compareOp .IsNot) (fun x y H Q=>y=.non∧Q (.bl (!decide (x=.non))) H):=by
 intro pins s σ H x y v u Q I rx ry h
 obtain⟨rfl,q⟩:=h
 cases ry
 refine isnot_none_gen (bE I q ?_)
 cases x <;> first
  | (cases rx; rfl)
  | (obtain⟨t,rfl⟩:=rx; rfl)
theorem aK (b:Expr) {op:CmpOp} (h:op≠.In:=by decide) (h2:op≠.NotIn:=by decide):behindInMarks op b=false:=by
 have e1:(op == CmpOp.In)=false:=by cases op <;> first | rfl | exact absurd rfl h
 have e2:(op == CmpOp.NotIn)=false:=by cases op <;> first | rfl | exact absurd rfl h2
 cases b <;> simp [behindInMarks,e1,e2]
theorem nv {op:CmpOp} {r:R2} (ho:OpR X (compareOp op) r) (ha:PE X a ta) (hb:PE X b tb) (hm:behindInMarks op b=false):PE X (.Compare a [op] [b] pos) (tOp r ta tb):=by
 intro pins s σ H Q I h
 exact wpAny_Compare1 (KI ha hb I h fun v u s2 x y H2 I2 rx ry q=>ho pins s2 σ H2 x y v u Q I2 rx ry q) hm
noncomputable def K6 (t:TE):TT:=fun σ H Q=>t σ H fun x H'=>∃k,x=.bl k∧Q k H'
theorem aE {op:CmpOp} {r:R2} (ho:OpR X (compareOp op) r) (ha:PE X a ta) (hb:PE X b tb) (hm:behindInMarks op b=false):PT X (.Compare a [op] [b] pos) (K6 (tOp r ta tb)):=by
 intro pins s σ H Q I h
 refine wpAny_isTrue_Compare1 (thn (ha pins s σ H _ I h) fun v s1 ⟨x,H1,I1,r1,q1⟩=>thn (hb pins s1 σ H1 _ I1 q1) fun u s2 ⟨y,H2,I2,r2,q2⟩=>
  thn (ho pins s2 σ H2 x y v u _ I2 r1 r2 q2) fun c s3 ⟨z,H3,I3,r3,k,e,q3⟩=>?_) hm
 subst e
 cases r3
 exact wpAny_truthy_bool ⟨H3,I3,q3⟩
noncomputable def L5 (K:PySem.W.Frag) (x:V) (H:Hp) (k:Bool):Prop:=
 match x with
 | .non=>k=false
 | .bl b=>k=b
 | .int i=>k=(i != 0)
 | .str y=>y.length≤sizeLine∧k=((y.length:Int) != 0)
 | .byt y=>y.size≤sizeLine∧k=((y.size:Int) != 0)
 | .ref p=>(∃xs,SqL K H p xs∧k=!xs.isEmpty)∨(∃xs,SqT K H p xs∧k=!xs.isEmpty)∨∃kvs,H p=some (.dK kvs)∧k=!kvs.isEmpty
 | _=>False
theorem BP {κ:Type} {kvs:List (κ×V)} {vs:List (κ×Value)} (r:KV kvs vs):(!vs.isEmpty)=!kvs.isEmpty:=by
 cases r <;> rfl
theorem sI {xs:List V} {its:List Value} (r:Vals xs its):(!its.toArray.isEmpty)=!xs.isEmpty:=by
 cases r <;> simp
theorem sC:(sizeLine:Nat) < 2 ^ 63:=by rw [sizeLine_eq]; decide
theorem JP:MY X (fun x H Q=>∃k,L5 X.K x H k∧Q k H):=by
 intro pins s σ H x v Q I rx h
 obtain⟨k,e,q⟩:=h
 have hl:=sC
 have hs:sizeLine=16777216:=sizeLine_eq
 cases x with
 | non=>
  cases rx
  have e':k=false:=e
  subst e'
  exact truthy_none ⟨H,I,q⟩
 | bl b=>
  cases rx
  have e':k=b:=e
  subst e'
  exact wpAny_truthy_bool ⟨H,I,q⟩
 | int i=>
  obtain⟨t,rfl⟩:=rx
  have e':k=(i != 0):=e
  subst e'
  exact PySem.P.truthy_int ⟨H,I,q⟩
 | str y=>
  obtain⟨t,rfl⟩:=rx
  obtain⟨hy,e'⟩:y.length≤sizeLine∧k=((y.length:Int) != 0):=e
  subst e'
  exact PySem.P.truthy_str (by omega) ⟨H,I.tok _,q⟩
 | byt y=>
  obtain⟨t,rfl⟩:=rx
  obtain⟨hy,e'⟩:y.size≤sizeLine∧k=((y.size:Int) != 0):=e
  subst e'
  exact PySem.W.truthy_bytes (by omega) ⟨H,I.tok _,q⟩
 | ref p=>
  cases rx
  have e':(∃xs,SqL X.K H p xs∧k=!xs.isEmpty)∨(∃xs,SqT X.K H p xs∧k=!xs.isEmpty)∨∃kvs,H p=some (.dK kvs)∧k=!kvs.isEmpty:=e
  rcases e' with⟨xs,hx,e'⟩ | ⟨xs,hx,e'⟩ | ⟨kvs,hx,e'⟩
  ·subst e'
   obtain⟨its,r,pl,hz⟩:=I.list hx
   have hlen:=r.length
   exact wpAny_truthy_list pl.isList (by simp only [List.size_toArray]; omega) ⟨H,I.tok _,by rw [sI r]; exact q⟩
  ·subst e'
   obtain⟨its,r,pl,hz⟩:=I.tuple hx
   have hlen:=r.length
   exact truthy_tuple pl (by simp only [List.size_toArray]; omega) ⟨H,I.tok _,by rw [sI r]; exact q⟩
  ·subst e'
   obtain⟨hz,hS,vs,r,m⟩:kvs.length≤sizeLine∧(p == sysModules)=false∧∃vs,KV kvs vs∧s.heap.DictOf (wS X.prog X.w) p vs:=I.hok p _ hx
   have hlen:kvs.length=vs.length:=Paired.length r
   exact wpAny_truthy_dict hS m (by omega) ⟨H,I.tok _,by rw [BP r]; exact q⟩
 | _=>exact(show False from e).elim
theorem aW (ha:PE X a ta) (he:∀whole,isTrue a X.env whole=(do let v←whole; standAt a.pos; holding [v] (truthy v))):
  PT X a (fun σ H Q=>ta σ H fun x H'=>∃k,L5 X.K x H' k∧Q k H'):=by
 intro pins s σ H Q I h
 exact isTrue_plain (thn (ha pins s σ H _ I h) fun v s1 ⟨x,H1,I1,r1,q1⟩=>JP pins s1 σ H1 x v Q I1 r1 q1) (he _)
theorem FA {x:V} {us:List Value} (r:Vals [x] us):∃u,us=[u]∧RelV x u:=by
 cases r with
 | cons r1 r2=>cases r2; exact⟨_,rfl,r1⟩
theorem kY:gn X (.builtin "abs") (fun xs H Q=>∃i,xs=[.int i]∧Q (.int (if i < 0 then -i else i)) H):=by
 intro pins s σ H xs us Q I r h
 obtain⟨i,rfl,q⟩:=h
 obtain⟨u,rfl,t,rfl⟩:=FA r
 exact call_abs_int fun u tk=>⟨.int (if i < 0 then -i else i),H,I.tok _,⟨_,rfl⟩,q⟩
end
end L2
namespace L2
open PySem PySem.Spec PyProof.Rows
structure ObjM (h:Heap) (x dx C:Addr) (mA:Str→Option Value):Prop where
 obj:h.get? x=some (PySem.W.instObj C dx)
 ns:h.Ns1 dx mA
 ne:dx≠x
theorem EF {h:Heap} {dx:Addr} {mA:Str→Option Value} (n:h.Ns1 dx mA):∃od,h.get? dx=some od∧∀name,PySem.W.lookIn name od=some (mA name):=by
 obtain⟨o,es,ep,ho,hd,hk,_,hm⟩:=n
 refine⟨o,ho,fun name=>?_⟩
 have e:=hm name
 unfold nsFind findBy at e
 rw [←Array.find?_toList] at e
 unfold PySem.W.lookIn
 rw [hd]
 dsimp only
 split
 ·rename_i y q
  rw [q] at e
  exact congrArg some e
 ·rename_i q
  rw [q] at e
  have a:es.toList.any (·.refKey)=false:=by
   rw [List.any_eq_false]
   intro y hy
   obtain⟨z,t,hkey⟩:=hk y (Array.mem_toList_iff.mp hy)
   simp [DictEntry.refKey,hkey]
  have a':¬es.toList.any (·.refKey)=true:=by rw [a]; exact Bool.false_ne_true
  rw [if_neg a']
  exact congrArg some e
theorem ObjM.look {h:Heap} {x dx C:Addr} {mA:Str→Option Value} (I:ObjM h x dx C mA):∃od,PySem.W.InstAt h x (PySem.W.instObj C dx) C (some od)∧∀name,PySem.W.lookIn name od=some (mA name):=
 let ⟨od,ho,hl⟩:=EF I.ns
 ⟨od,⟨I.obj,rfl,rfl,ho⟩,hl⟩
section
variable {prog:Program} {w:World} {A:Around} {E:Value→Shared→Prop} {s:Shared} {K:PySem.W.Frag} {x dx C f:Addr} {mA:Str→Option Value} {name:Str} {v:Value}
theorem ID {expr:Bool} {Q:Value→Shared→Prop} (X:K.In s.heap) (I:ObjM s.heap x dx C mA) (hg:PySem.W.plainGet K C name=true) (hh:PySem.W.hasDictIn K C=true)
  (ha:PySem.W.findIn K (.ref C) name=some none) (hv:mA name=some v) (hv':PySem.W.handedIn v=true) (h:Q v {s with toks:=s.toks+1}):
  wpAny (model prog w) A (getAttr (.ref x) name expr) Q E s:=by
 obtain⟨od,J,hl⟩:=I.look
 exact PySem.W.get_value X J (PySem.W.plainGet_of hg).1 (PySem.W.findObj_own hh ha rfl (by rw [hl,hv])) hv' h
theorem GC {pl:Sem Bool} {Q:Value×List Value→Shared→Prop} (X:K.In s.heap) (I:ObjM s.heap x dx C mA) (hg:PySem.W.plainGet K C name=true)
  (hf:PySem.W.findIn K (.ref C) name=some (some (.ref f))) (ht:PySem.W.isFn K (.ref f)=true) (hv:mA name=none) (h:Q (.ref f,[.ref x]) s):
  wpAny (model prog w) A (getMethod (.ref x) name pl) Q E s:=by
 obtain⟨od,J,hl⟩:=I.look
 exact PySem.W.method_fn X J (PySem.W.plainGet_of hg).1 (PySem.W.plainGet_of hg).2 hf (beq_iff_eq.mp ht) (by show(PySem.W.lookIn name od).map (·.isSome)=some false; rw [hl,hv]; rfl) h
theorem HL {ns:List Str} {Q:Unit→Shared→Prop} (X:K.In s.heap) (I:ObjM s.heap x dx C mA)
  (hs:PySem.W.findIn K (.ref C) "__setattr__"=some (some (.builtin "object.__setattr__"))) (hp:PySem.W.plainOver K C=true) (ht:PySem.W.takerIn K C name=some none) (hh:PySem.W.hasDictIn K C=true)
  (hw:PySem.Within mA ns) (hsz:ns.length≤sizeLine)
  (h:∀h',ObjM h' x dx C (fun y=>if y=name then some v else mA y)→Heap.SameBut dx s.heap h'→Q () {s with heap:=h',toks:=s.toks+2}):
  wpAny (model prog w) A (setAttr (.ref x) name v) Q E s:=by
 obtain⟨od,J,hl⟩:=I.look
 refine PySem.W.set_plain X J hs (PySem.W.osa_open (s:={s with toks:=s.toks+1}) (r:=none) X J hp ht fun b=>?_)
 obtain⟨cd,hc,hd'⟩:=PySem.W.any_some hh
 have hx:s.heap.get? x=some ⟨.ref C,some dx,.plain,#[]⟩:=I.obj
 refine wpAny_bind (wpAny_pure (wpAny_bind (wpAny_bind (wpAny_loadPart hx (wpAny_bind (PySem.W.Looks.here (s:={s with toks:=s.toks+1}) (PySem.W.looks_clsIn X hc) ?_))))))
 rw [hd']
 refine wpAny_pure (a:=some dx) (wpAny_bind (wpAny_pure (wpAny_bind ?_)))
 refine wpAny_nsSet1 (s:={s with toks:=s.toks+1}) I.ns fun h' hn2 hs2=>?_
 obtain⟨oD,esD,epD,hoD,hdD,hcD⟩:=hn2.count (PySem.Within.cons name v hw)
 refine wpAny_bind (wpAny_lookBehind hoD (by rw [hdD]; exact pastItsLine_dict (Nat.le_trans hcD (by rw [List.length_cons]; omega))) ?_)
 exact wpAny_pure (h _ ⟨(hs2.2 _ (Ne.symm I.ne)).trans I.obj,hn2,I.ne⟩ hs2)
theorem Gm {R:Result→Shared→Prop} {vs:List Value} {kw:List (Str×Value)} (X:K.In s.heap) (hm:PySem.W.makesIn K C=true)
  (hi:PySem.W.findIn K (.ref C) "__init__"=some (some (.ref f))) (hf:PySem.W.typeIn K (.ref f)=some (.type "function"))
  (h:codeAny (model prog w) (A.under (.builtin "type.__call__" ⟨.ref C::vs,kw⟩)) (.call (.ref f) ⟨.ref (s.heap.objs.size+1)::vs,kw⟩) (PySem.W.InitBack (s.heap.objs.size+1) R)
   {s with heap:=(s.heap.push PySem.W.emptyDict).push (PySem.W.instObj C s.heap.objs.size)}):
  codeAny (model prog w) A (.call (.ref C) ⟨vs,kw⟩) R s:=by
 obtain⟨hh,g,d,t,os⟩:=s
 exact PySem.W.make_core (PySem.W.makes_of X hm) (PySem.W.looks_findIn X hi) (fun self=>PySem.W.bind_fn X self hf) (.inl rfl) h
end
noncomputable def bD (f:Str) (v:V):List (Str×V)→List (Str×V)
 | []=>[(f,v)]
 | (g,x)::r=>if g=f then(g,v)::r else(g,x)::bD f v r
theorem cH (f g:Str) (v:V):∀fs:List (Str×V),(bD f v fs).lookup g=if g=f then some v else fs.lookup g
 | []=>by
  show List.lookup g [(f,v)]=_
  by_cases h:g=f
  ·have hb:(g == f)=true:=beq_iff_eq.mpr h
   simp only [List.lookup,hb,if_pos h]
  ·have hb:(g == f)=false:=beq_eq_false_iff_ne.mpr h
   simp only [List.lookup,hb,if_neg h]
 | (k,x)::r=>by
  have ih:=cH f g v r
  rw [show bD f v ((k,x)::r)=(if k=f then(k,v)::r else(k,x)::bD f v r) from rfl]
  by_cases hk:k=f
  ·rw [if_pos hk]
   by_cases h:g=k
   ·have hb:(g == k)=true:=beq_iff_eq.mpr h
    simp only [List.lookup,hb,if_pos (h.trans hk)]
   ·have hb:(g == k)=false:=beq_eq_false_iff_ne.mpr h
    simp only [List.lookup,hb,if_neg (fun e:g=f=>h (e.trans hk.symm))]
  ·rw [if_neg hk]
   by_cases h:g=k
   ·have hb:(g == k)=true:=beq_iff_eq.mpr h
    simp only [List.lookup,hb,if_neg (fun e:g=f=>hk (h.symm.trans e))]
   ·have hb:(g == k)=false:=beq_eq_false_iff_ne.mpr h
    simp only [List.lookup,hb]
    exact ih
theorem oS (f:Str) (v:V):∀fs:List (Str×V),f∈(bD f v fs).map (·.1)∧∀g,g∈fs.map (·.1)→g∈(bD f v fs).map (·.1)
 | []=>⟨by simp [bD],fun g h=>by simp at h⟩
 | (k,x)::r=>by
  obtain⟨i1,i2⟩:=oS f v r
  rw [show bD f v ((k,x)::r)=(if k=f then(k,v)::r else(k,x)::bD f v r) from rfl]
  by_cases hk:k=f
  ·rw [if_pos hk]
   subst hk
   exact⟨by simp,fun g h=>by simpa using h⟩
  ·rw [if_neg hk]
   refine⟨?_,fun g h=>?_⟩
   ·rw [List.map_cons]
    exact List.mem_cons_of_mem _ i1
   ·rw [List.map_cons] at h⊢
    rcases List.mem_cons.mp h with e | e
    ·exact List.mem_cons.mpr (.inl e)
    ·exact List.mem_cons_of_mem _ (i2 g e)
theorem cI (f:Str) (v:V):∀fs:List (Str×V),(bD f v fs).length≤fs.length+1
 | []=>by simp [bD]
 | (k,x)::r=>by
  have ih:=cI f v r
  rw [show bD f v ((k,x)::r)=(if k=f then(k,v)::r else(k,x)::bD f v r) from rfl]
  by_cases hk:k=f
  ·rw [if_pos hk,List.length_cons,List.length_cons]; omega
  ·rw [if_neg hk,List.length_cons,List.length_cons]; omega
theorem RelO.some_of {v:V} {o:Option Value} (r:RelO (some v) o):∃u,o=some u∧RelV v u:=by
 cases o with
 | none=>exact(show False from r).elim
 | some u=>exact⟨u,rfl,r⟩
theorem RelO.none_of {o:Option Value} (r:RelO none o):o=none:=by
 cases o with
 | none=>rfl
 | some u=>exact(show False from r).elim
theorem EL {v:V} {u:Value} (r:RelV v u):PySem.W.handedIn u=true:=by
 cases v with
 | non=>cases (show u=Value.none from r); rfl
 | bl b=>cases (show u=Value.bool b from r); rfl
 | int i=>obtain⟨t,e⟩:=(show∃t,u=Value.int i t from r); cases e; rfl
 | str x=>obtain⟨t,e⟩:=(show∃t,u=Value.str x t from r); cases e; rfl
 | byt b=>obtain⟨t,e⟩:=(show∃t,u=Value.bytes b t from r); cases e; rfl
 | flt b=>obtain⟨t,e⟩:=(show∃t,u=Value.float b t from r); cases e; rfl
 | ref a=>cases (show u=Value.ref a from r); rfl
 | ty n=>cases (show u=Value.type n from r); rfl
section
variable {P:Program} {w:World} {H H':Hp} {h h':Heap} {a C dx:Addr} {fs fs':List (Str×V)}
theorem wY (hok:HOk P w H h) (e:H a=some (.ins C dx fs)):∃mA,ObjM h a dx C mA∧(∀f,RelO (fs.lookup f) (mA f))∧PySem.Within mA (fs.map (·.1))∧fs.length≤1000∧H dx=some (.own a):=by
 obtain⟨d,z,ne,ob,mA,n,r,q⟩:=(show ObjOk P w H h a (.ins C dx fs) from hok a _ e)
 exact⟨mA,⟨ob,n,ne⟩,r,q,z,d⟩
end
structure Cls (K:PySem.W.Frag) (C:Addr):Prop where
 pg:PySem.W.plainGet K C Str.empty=true
 hd:PySem.W.hasDictIn K C=true
 po:PySem.W.plainOver K C=true
 sa:PySem.W.findIn K (.ref C) "__setattr__"=some (some (.builtin "object.__setattr__"))
theorem Cls.get {K:PySem.W.Frag} {C:Addr} (c:Cls K C) (f:Str):PySem.W.plainGet K C f=true:=c.pg
noncomputable def NoAttr (K:PySem.W.Frag) (C:Addr) (f:Str):Prop:=PySem.W.findIn K (.ref C) f=some none
theorem NoAttr.taker {K:PySem.W.Frag} {C:Addr} {f:Str} (n:NoAttr K C f):PySem.W.takerIn K C f=some none:=by
 unfold PySem.W.takerIn
 rw [show PySem.W.findIn K (.ref C) f=some none from n]
 rfl
structure Jl (K:PySem.W.Frag) (C:Addr) (m:Str) (f:Addr):Prop where
 at_:PySem.W.findIn K (.ref C) m=some (some (.ref f))
 fn:PySem.W.isFn K (.ref f)=true
 kp:PySem.W.keepIn K (.ref f)=true
section
variable {X:Cx} {pins:List (Addr×Obj)} {σ:St} {H:Hp} {s:Shared} {a C dx:Addr} {fs:List (Str×V)} {f:Str} {v:V} {A:Around} {E:Value→Shared→Prop}
theorem sS {b:Bool} {Q:Value→Shared→Prop} (I:Inv X pins σ H s) (e:H a=some (.ins C dx fs)) (c:Cls X.K C) (n:NoAttr X.K C f) (l:fs.lookup f=some v)
  (h:∀u s',Inv X pins σ H s'→RelV v u→Q u s'):wpAny (model X.prog X.w) A (getAttr (.ref a) f b) Q E s:=by
 obtain⟨mA,O,r,_,_,_⟩:=wY I.hok e
 obtain⟨u,hu,ru⟩:=RelO.some_of (v:=v) (o:=mA f) (by rw [←l]; exact r f)
 exact ID I.kIn O (c.get f) c.hd n hu (EL ru) (h u _ (I.tok _) ru)
theorem sR {m:Str} {g:Addr} {pl:Sem Bool} {Q:Value×List Value→Shared→Prop} (I:Inv X pins σ H s) (e:H a=some (.ins C dx fs)) (c:Cls X.K C) (k:Jl X.K C m g) (l:fs.lookup m=none)
  (h:Q (.ref g,[.ref a]) s):wpAny (model X.prog X.w) A (getMethod (.ref a) m pl) Q E s:=by
 obtain⟨mA,O,r,_,_,_⟩:=wY I.hok e
 have hn:mA m=none:=RelO.none_of (by rw [←l]; exact r m)
 exact GC I.kIn O (c.get m) k.at_ k.fn hn h
theorem rF {y:V} {u:Value} {Q:Unit→Shared→Prop} (I:Inv X pins σ H s) (e:H a=some (.ins C dx fs)) (c:Cls X.K C) (n:NoAttr X.K C f) (hl:fs.length < 1000) (ry:RelV y u)
  (h:∀s',Inv X pins σ (upd H a (.ins C dx (bD f y fs))) s'→Q () s'):wpAny (model X.prog X.w) A (setAttr (.ref a) f u) Q E s:=by
 obtain⟨mA,O,r,wi,_,ho⟩:=wY I.hok e
 have hz:(fs.map (·.1)).length≤sizeLine:=by rw [List.length_map,sizeLine_eq]; omega
 refine HL I.kIn O c.sa c.po n.taker c.hd wi hz fun h' O' sb=>h _ ?_
 have hd:∃o,h'.get? dx=some o:=let ⟨o,_,_,e',_⟩:=O'.ns; ⟨o,e'⟩
 refine I.write (x:=a) (e:=dx) (by rw [e]; exact True.intro) (.inr ho) (fun b q hb z=>(sb.2 b hb).trans z) hd ?_
 refine⟨by rw [aq O.ne]; exact ho,?_,O.ne,O'.obj,_,O'.ns,fun g=>?_,fun g hg=>?_⟩
 ·have:=cI f y fs; omega
 ·show RelO ((bD f y fs).lookup g) (if g=f then some u else mA g)
  rw [cH]
  by_cases q:g=f
  ·rw [if_pos q,if_pos q]; exact ry
  ·rw [if_neg q,if_neg q]; exact r g
 ·by_cases q:g=f
  ·rw [q]; exact(oS f y fs).1
  ·refine(oS f y fs).2 g (wi g fun z=>hg ?_)
   show(if g=f then some u else mA g)=none
   rw [if_neg q]; exact z
theorem Inv.made (I:Inv X pins σ H s):Inv X pins σ (upd (upd H s.heap.objs.size (.own (s.heap.objs.size+1))) (s.heap.objs.size+1) (.ins C s.heap.objs.size []))
  {s with heap:=(s.heap.push PySem.W.emptyDict).push (PySem.W.instObj C s.heap.objs.size)}:=by
 have e1:(s.heap.push PySem.W.emptyDict).get? s.heap.objs.size=some PySem.W.emptyDict:=Heap.get?_push_size s.heap rfl
 have e2:((s.heap.push PySem.W.emptyDict).push (PySem.W.instObj C s.heap.objs.size)).get? (s.heap.objs.size+1)=some (PySem.W.instObj C s.heap.objs.size):=by
  have:=Heap.get?_push_size (s.heap.push PySem.W.emptyDict) (o:=PySem.W.instObj C s.heap.objs.size) rfl
  rwa [Heap.size_push] at this
 have e3:(s.heap.push PySem.W.emptyDict).Ns s.heap.objs.size (fun _=>none):=⟨PySem.W.emptyDict,#[],_,e1,rfl,(fun e he=>absurd he (by simp)),fun _=>rfl⟩
 have I1:=I.laid (a:=s.heap.objs.size) (o:=.own (s.heap.objs.size+1)) (h':=s.heap.push PySem.W.emptyDict) (t':=s.toks) (fun b u q=>Heap.get?_push_of_some _ q) (Nat.le_refl _) ⟨_,e1⟩
 refine I1.laid (a:=s.heap.objs.size+1) (o:=.ins C s.heap.objs.size []) (t':=s.toks) (fun b u q=>Heap.get?_push_of_some _ q) (Nat.le_of_eq (Heap.size_push _ _)) ?_
 have ne:s.heap.objs.size≠s.heap.objs.size+1:=Nat.ne_of_lt (Nat.lt_succ_self _)
 refine⟨by rw [aq ne,af],Nat.zero_le _,ne,e2,fun _=>none,(Heap.Ns1.of_empty e3).at fun o q=>Heap.get?_push_of_some _ q,fun _=>True.intro,fun y hy=>absurd rfl hy⟩
theorem I0 {prog:Program} {w:World} {env:Env} {e:Expr} {f:Str} {pos:Pos} {s:Shared} {Q:Value→Shared→Prop} (hb:attributeBase e f env (eval e env)=eval e env)
  (h:wpAny (model prog w) A (eval e env) (fun o s₁=>wpAny (model prog w) A (getAttr o f true) Q E s₁) E s):wpAny (model prog w) A (eval (.Attribute e f pos) env) Q E s:=
 Attribute_any_ h (by rw [arm_eval_Attribute,hb])
end
noncomputable def Mp (K:PySem.W.Frag) (ta:TE) (f:Str):TE:=fun σ H Q=>ta σ H fun x H1=>∃a C dx fs v,x=.ref a∧H1 a=some (.ins C dx fs)∧Cls K C∧NoAttr K C f∧fs.lookup f=some v∧Q v H1
noncomputable def Mv (K:PySem.W.Frag) (ta tv:TE) (f:Str):TS:=fun D σ H=>tv σ H fun y H1=>ta σ H1 fun x H2=>∃a C dx fs,x=.ref a∧H2 a=some (.ins C dx fs)∧Cls K C∧NoAttr K C f∧fs.length < 1000∧
 D.nx σ (upd H2 a (.ins C dx (bD f y fs)))
noncomputable def L8 (X:Cx) (op:Operator) (rd:V→V→Hp→VK→Prop):Prop:=
 ∀(pins:List (Addr×Obj)) (s:Shared) (σ:St) (H:Hp) (x y:V) (u v:Value) (Q:VK),Inv X pins σ H s→RelV x u→RelV y v→rd x y H Q→wpAny (model X.prog X.w) X.A (inplaceOp op u v) (EP X pins σ Q) X.xe s
noncomputable def HM (K:PySem.W.Frag) (ta tv:TE) (rd:V→V→Hp→VK→Prop) (f:Str):TS:=fun D σ H=>ta σ H fun x H1=>∃a C dx fs v,x=.ref a∧H1 a=some (.ins C dx fs)∧Cls K C∧NoAttr K C f∧fs.lookup f=some v∧
 tv σ H1 fun y H2=>rd v y H2 fun z H3=>∃dx' fs',H3 a=some (.ins C dx' fs')∧fs'.length < 1000∧D.nx σ (upd H3 a (.ins C dx' (bD f z fs')))
section
variable {X:Cx} {o e value:Expr} {f:Str} {pos pos' tpos:Pos} {ta tv:TE}
theorem aV (he:PE X e ta) (hb:attributeBase e f X.env (eval e X.env)=eval e X.env):PE X (.Attribute e f pos) (Mp X.K ta f):=by
 intro pins s σ H Q I h
 refine I0 hb (thn (he pins s σ H _ I h) fun u s1 ⟨x,H1,I1,rx,a,C,dx,fs,v,ex,ea,c,n,l,q⟩=>?_)
 subst ex
 obtain rfl:u=Value.ref a:=rx
 exact sS I1 ea c n l fun u' s2 I2 ru=>⟨v,H1,I2,ru,q⟩
theorem b5 (ha:PE X o ta) (hv:PE X value tv) (hs:swapsWith value (some (.Attribute o f pos')) pos.line X.env=pure false):PS X (.Assign [.Attribute o f pos'] value pos) (Mv X.K ta tv f):=by
 intro pins s σ H D I h
 refine plainObj_wpAny_Assign_Attribute (thn (hv pins s σ H _ I h) fun u s1 ⟨y,H1,I1,ry,q⟩=>thn (ha pins s1 σ H1 _ I1 q) fun ov s2 ⟨x,H2,I2,rx,a,C,dx,fs,ex,ea,c,n,l,q2⟩=>?_) hs
 subst ex
 obtain rfl:ov=Value.ref a:=rx
 exact rF I2 ea c n l ry fun s3 I3=>⟨σ,_,I3,q2⟩
theorem u9 {op:Operator} {rd:V→V→Hp→VK→Prop} (ha:PE X o ta) (hv:PE X value tv) (hop:L8 X op rd):PS X (.AugAssign (.Attribute o f tpos) op value pos) (HM X.K ta tv rd f):=by
 intro pins s σ H D I h
 refine wpAny_AugAssign_AttributeAny (thn (ha pins s σ H _ I h) fun ov s1 ⟨x,H1,I1,rx,a,C,dx,fs,v,ex,ea,c,n,l,q⟩=>?_)
 subst ex
 obtain rfl:ov=Value.ref a:=rx
 refine sS I1 ea c n l fun u s2 I2 ru=>thn (hv pins s2 σ H1 _ I2 q) fun w3 s3 ⟨y,H2,I3,ry,q3⟩=>thn (hop pins s3 σ H2 v y u w3 _ I3 ru ry q3) fun w4 s4 ⟨z,H3,I4,rz,dx',fs',ea',l',q4⟩=>?_
 exact rF I4 ea' c n l' rz fun s5 I5=>⟨σ,_,I5,q4⟩
noncomputable def MI:V→V→Hp→VK→Prop:=fun x y H Q=>∃i j,x=.int i∧y=.int j∧Q (.int (i+j)) H
theorem Gw:L8 X .Add MI:=by
 rintro pins s σ H x y u v Q I rx ry ⟨i,j,rfl,rfl,q⟩
 obtain⟨t,rfl⟩:=(show∃t,u=Value.int i t from rx)
 obtain⟨t',rfl⟩:=(show∃t',v=Value.int j t' from ry)
 exact PyProof.Rows.iadd_int ⟨.int (i+j),H,I.tok _,⟨_,rfl⟩,q⟩
end
end L2
namespace L2
open PySem PySem.Spec PyProof.Rows
structure Room (k:Nat) (A:Around):Prop where
 hd:A.handled=none
 dp:A.depth+3*k+5 < recursionLimit
 un:A.units+16*k+200 < cLine
theorem Room.mono {j k:Nat} {A:Around} (r:Room k A) (h:j≤k):Room j A:=⟨r.hd,by have:=r.dp; omega,by have:=r.un; omega⟩
theorem Room.deeper {k:Nat} {A:Around} (r:Room (k+1) A) (env:Env):Room k (A.deeper env):=
 ⟨r.hd,by have:=r.dp; show A.depth+1+3*k+5 < _; omega,by have:=r.un; show A.units+3+16*k+200 < _; omega⟩
theorem BL {A:Around} {C:Addr} {us:List Value} {kw:List (Str×Value)}:(A.under (.builtin "type.__call__" ⟨.ref C::us,kw⟩)).depth=A.depth+1:=by
 first | rfl | simp [Around.under,Code.weight,Code.isCreation,Code.isGuard,Code.isCaller,Code.frames,Code.isFrame,guardIds]
theorem BK {A:Around} {C:Addr} {us:List Value} {kw:List (Str×Value)}:(A.under (.builtin "type.__call__" ⟨.ref C::us,kw⟩)).units=A.units+1:=by
 first | rfl | simp [Around.under,Code.cUnits,Code.frames,Code.isFrame]
theorem Room.make {k:Nat} {A:Around} (r:Room (k+1) A) (C:Addr) (us:List Value) (kw:List (Str×Value)):Room k (A.under (.builtin "type.__call__" ⟨.ref C::us,kw⟩)):=
 ⟨r.hd,by have:=r.dp; rw [BL]; omega,by have:=r.un; rw [BK]; omega⟩
theorem Room.depth {k:Nat} {A:Around} (r:Room k A):A.depth < recursionLimit:=by have:=r.dp; omega
noncomputable def AM:TA:=fun _ H Q=>Q [] H
noncomputable def Lb (ta:TE) (tr:TA):TA:=fun σ H Q=>ta σ H fun x H1=>tr σ H1 fun xs H2=>Q (x::xs) H2
section
variable {X:Cx} {e:Expr} {es:List Expr} {te:TE} {t:TA} {pos:Pos}
theorem ah:PA X [] AM:=fun _ _ _ _ H Q I h=>Calls.spliced_nil ⟨[],H,I,.nil,h⟩
theorem aa (ha:PE X e te) (hr:PA X es t) (hs:starEach (e::es) X.env=(false,eval e X.env)::starEach es X.env:=by rfl):PA X (e::es) (Lb te t):=by
 intro pos pins s σ H Q I h
 rw [hs]
 show wpAny _ _ (spliced ((false,eval e X.env)::backTo pos (starEach es X.env))) _ _ s
 refine Calls.spliced_cons (thn (ha pins s σ H _ I h) fun u s1 ⟨x,H1,I1,r1,q1⟩=>?_)
 exact thn (hr pos pins s1 σ H1 _ I1 q1) fun us s2 ⟨xs,H2,I2,r2,q2⟩=>⟨x::xs,H2,I2,.cons r1 r2,q2⟩
noncomputable def Mi (t:TA):TE:=fun σ H Q=>t σ H fun xs H1=>xs.length≤sizeLine∧∀p,H1 p=none→Q (.ref p) (upd H1 p (.tup xs))
noncomputable def Mm (t:TA):TE:=fun σ H Q=>t σ H fun xs H1=>xs.length≤sizeLine∧∀p,H1 p=none→Q (.ref p) (upd H1 p (.lst xs))
theorem bq {x1} (h:PA X es t):PE X (.Tuple es x1 pos) (Mi t):=by
 intro pins s σ H Q I hq
 refine wpAny_Tuple_spliced (thn (h pos pins s σ H _ I hq) fun us s1 ⟨xs,H1,I1,r,z,q⟩=>⟨by rw [←r.length]; exact z,?_⟩)
 have hf:H1 s1.heap.objs.size=none:=I1.hok.fresh (Nat.le_refl _)
 refine⟨.ref s1.heap.objs.size,upd H1 s1.heap.objs.size (.tup xs),I1.laid (t':=s1.toks) (fun b u e=>Heap.get?_push_of_some _ e) (Nat.le_refl _) ?_,rfl,q _ hf⟩
 exact⟨z,us,r,⟨_,Heap.get?_push_size _ rfl,rfl,_,rfl⟩⟩
theorem aN (h:PA X es t):PE X (.List es pos) (Mm t):=by
 intro pins s σ H Q I hq
 refine wpAny_List_spliced (thn (h pos pins s σ H _ I hq) fun us s1 ⟨xs,H1,I1,r,z,q⟩=>⟨by rw [←r.length]; exact z,?_⟩)
 have hf:H1 s1.heap.objs.size=none:=I1.hok.fresh (Nat.le_refl _)
 refine⟨.ref s1.heap.objs.size,upd H1 s1.heap.objs.size (.lst xs),I1.laid (t':=s1.toks) (fun b u e=>Heap.get?_push_of_some _ e) (Nat.le_refl _) ?_,rfl,q _ hf⟩
 exact⟨z,us,0,r,Heap.get?_push_size _ rfl⟩
end
noncomputable abbrev Sp:=List V→Hp→VK→XK→Prop
noncomputable abbrev CXT:=List Env→Hp→Shared→XK→Value→Shared→Prop
structure Env0 (P:Program) (w:World) (K:PySem.W.Frag) (mg:Str→Option Value) (base:Heap) (A:Around) (outer:List Env) (s:Shared) (H:Hp):Prop where
 frames:A.frames=some outer
 mod:Mod K mg base
 bs:∀b o,base.get? b=some o→s.heap.get? b=some o∧H b=none
 bsz:base.objs.size≤s.heap.objs.size
 funs:s.heap.FunFrames base outer
 frf:∀b∈frs outer,H b=none
 hok:HOk P w H s.heap
 bare:AllBare s.gens
noncomputable def CE (outer:List Env) (P:Program) (w:World) (H:Hp) (s:Shared) (Q:VK) (u:Value) (s':Shared):Prop:=
 ∃v H',s'.os=s.os∧AllBare s'.gens∧Un (frs outer) [] H H' s.heap s'.heap∧HOk P w H' s'.heap∧RelV v u∧Q v H'
noncomputable def CR (CX:CXT) (outer:List Env) (P:Program) (w:World) (H:Hp) (s:Shared) (Q:VK) (E:XK) (r:Result) (s':Shared):Prop:=
 match r with
 | .ok (.ret u)=>CE outer P w H s Q u s'
 | .ok _=>False
 | .error e=>CX outer H s E e s'
structure FnOk (P:Program) (w:World) (K:PySem.W.Frag) (mg:Str→Option Value) (base:Heap) (CX:CXT) (k:Nat) (f:Addr) (fd:FuncData) (ps:List Str) (sp:Sp):Prop where
 len:∀vs H Q E,sp vs H Q E→vs.length=ps.length
 run:∀(A:Around) (outer:List Env) (s:Shared) (H:Hp) (args:Args) (us:List Value) (vs:List V) (Q:VK) (E:XK),Room k A→Env0 P w K mg base A outer s H→BindsTo s fd args (ps.zip us)→Vals vs us→sp vs H Q E→
  codeAny (model P w) A (.call (.ref f) args) (CR CX outer P w H s Q E) s
theorem FnOk.imp {P:Program} {w:World} {K:PySem.W.Frag} {mg:Str→Option Value} {base:Heap} {CX:CXT} {k:Nat} {f:Addr} {fd:FuncData} {ps:List Str} {sp sp':Sp} (F:FnOk P w K mg base CX k f fd ps sp)
  (h:∀vs H Q E,sp' vs H Q E→sp vs H Q E):FnOk P w K mg base CX k f fd ps sp':=
 ⟨fun vs H Q E q=>F.len vs H Q E (h _ _ _ _ q),fun A outer s H args us vs Q E hr he hb hv hs=>F.run A outer s H args us vs Q E hr he hb hv (h _ _ _ _ hs)⟩
theorem Env0.make {P:Program} {w:World} {K:PySem.W.Frag} {mg:Str→Option Value} {base:Heap} {A:Around} {outer:List Env} {s:Shared} {H:Hp} (e:Env0 P w K mg base A outer s H) (C:Addr) (us:List Value) (kw:List (Str×Value)):
  Env0 P w K mg base (A.under (.builtin "type.__call__" ⟨.ref C::us,kw⟩)) outer s H:=⟨by first | exact e.frames | (simpa [Around.under,Code.envs,Code.isFrame,pushEnvs] using e.frames),e.mod,e.bs,e.bsz,e.funs,e.frf,e.hok,e.bare⟩
section
variable {X:Cx} {pins:List (Addr×Obj)} {σ:St} {H:Hp} {s s':Shared}
theorem Inv.env0 (I:Inv X pins σ H s):Env0 X.prog X.w X.K X.mg X.base X.A X.stack s H:=
 ⟨I.ok.frames,I.ok.mod,I.bs,Nat.le_trans I.ok.bsz I.sz,I.stack,I.stkFree,I.hok,I.bare⟩
theorem Inv.after {Q:VK} {u:Value} (I:Inv X pins σ H s) (h:CE X.stack X.prog X.w H s Q u s'):EP X pins σ Q u s':=by
 obtain⟨v,H',os,bare,un,hok,r,q⟩:=h
 obtain⟨hh,g,d,t,os'⟩:=s'
 obtain rfl:os'=s.os:=os
 exact⟨v,H',I.call (h':=hh) (g':=g) (d':=d) (t':=t) (ch:=[]) un hok bare (fun b z=>absurd z (by simp)),r,q⟩
end
noncomputable def CQ (sp:Sp) (dvs:List V) (E:XK) (t:TA):TE:=fun σ H Q=>t σ H fun vs H1=>sp (vs++dvs) H1 Q E
noncomputable def CO (C:Addr) (m:Str) (sp:Sp) (dvs:List V) (E:XK) (ta:TE) (t:TA):TE:=fun σ H Q=>ta σ H fun x H1=>∃a dx fs,x=.ref a∧H1 a=some (.ins C dx fs)∧fs.lookup m=none∧
 t σ H1 fun vs H2=>sp (x::(vs++dvs)) H2 Q E
noncomputable def CP (C:Addr) (sp:Sp) (dvs:List V) (E:XK) (t:TA):TE:=fun σ H Q=>t σ H fun vs H1=>∀x dx,H1 x=none→H1 dx=none→dx≠x→
 sp (.ref x::(vs++dvs)) (upd (upd H1 dx (.own x)) x (.ins C dx [])) (fun v H2=>v=.non∧Q (.ref x) H2) E
noncomputable def Binds (K:PySem.W.Frag) (fd:FuncData) (ps:List Str) (ds:List Value):Prop:=
 ∀(s:Shared) (us:List Value),K.In s.heap→(us++ds).length=ps.length→BindsTo s fd ⟨us,[]⟩ (ps.zip (us++ds))
theorem Binds.all {K:PySem.W.Frag} {fd:FuncData} {ps:List Str} (h:∀us:List Value,us.length=ps.length→bindArgs fd ⟨us,[]⟩=pure (ps.zip us)):Binds K fd ps []:=fun s us _ hl=>by
 rw [List.append_nil] at hl⊢
 exact .of_eq (h us hl)
noncomputable def jF (CX:CXT) (X:Cx) (E:XK):Prop:=∀(pins:List (Addr×Obj)) (σ:St) (H:Hp) (s:Shared) (e:Value) (s':Shared),Inv X pins σ H s→CX X.stack H s E e s'→X.xe e s'
section
variable {X:Cx} {CX:CXT} {k:Nat} {f C:Addr} {fd:FuncData} {ps:List Str} {sp:Sp} {dvs:List V} {ds:List Value} {E:XK} {x m:Str} {p pos apos:Pos} {e o:Expr} {es:List Expr} {ta:TE} {t:TA}
theorem wx {pins:List (Addr×Obj)} {σ:St} {H:Hp} {s:Shared} {Q:VK} {us:List Value} {vs:List V} (F:FnOk X.prog X.w X.K X.mg X.base CX k f fd ps sp) (hr:Room k X.A) (hb:Binds X.K fd ps ds) (hd:Vals dvs ds) (hx:jF CX X E)
  (I:Inv X pins σ H s) (r:Vals vs us) (h:sp (vs++dvs) H Q E):wpAny (model X.prog X.w) X.A (call (.ref f) us) (EP X pins σ Q) X.xe s:=by
 have r2:Vals (vs++dvs) (us++ds):=r.append hd
 have hl:(us++ds).length=ps.length:=by rw [←r2.length]; exact F.len _ _ _ _ h
 refine wpAny_call (codeAny_mono (F.run X.A X.stack s H ⟨us,[]⟩ (us++ds) (vs++dvs) Q E hr I.env0 (hb s us I.kIn hl) r2 h) fun r s' hq=>?_)
 cases r with
 | error e=>exact hx pins σ H s e s' I hq
 | ok fl=>
  cases fl with
  | ret u=>exact I.after hq
  | next=>exact False.elim hq
  | brk=>exact False.elim hq
  | cont=>exact False.elim hq
theorem HW (F:FnOk X.prog X.w X.K X.mg X.base CX k f fd ps sp) (hr:Room k X.A) (hg:Gl X x) (hm:X.mg x=some (.ref f)) (hk:PySem.W.keepIn X.K (.ref f)=true) (hb:Binds X.K fd ps ds) (hd:Vals dvs ds) (hx:jF CX X E)
  (ha:PA X (e::es) t) (hdb:(x == ("__debug__": Str))=false:=by decide) (he:starEach (e::es) X.env=(false,eval e X.env)::starEach es X.env:=by rfl) (hpl:(backTo pos (starEach es X.env)).any (·.1)=false:=by rfl):
  PE X (.Call (.Name x p) (e::es) [] pos) (CQ sp dvs E t):=by
 intro pins s σ H Q I h
 refine wpAny_Call_Name_kw (nI I hg hm ?_ hdb)
 refine PySem.W.callWith_K (h₀:=X.base) I.ok.mod.kin hk (thn (ha pos pins s σ H _ I h) fun us s1 ⟨vs,H1,I1,r,q⟩=>⟨I1.kIn,?_⟩) he hpl
 exact wx F hr hb hd hx I1 r q
theorem F6 (F:FnOk X.prog X.w X.K X.mg X.base CX k f fd ps sp) (hr:Room k X.A) (hg:Gl X x) (hm:X.mg x=some (.ref f)) (hk:PySem.W.keepIn X.K (.ref f)=true) (hb:Binds X.K fd ps ds) (hd:Vals dvs ds) (hx:jF CX X E)
  (hdb:(x == ("__debug__": Str))=false:=by decide):PE X (.Call (.Name x p) [] [] pos) (CQ sp dvs E AM):=by
 intro pins s σ H Q I h
 refine wpAny_Call_Name_kw (nI I hg hm ?_ hdb)
 exact PySem.W.callWith_K0 I.kIn hk (wx (us:=[]) F hr hb hd hx I .nil h)
theorem HU {pl:Sem Bool} (he:PE X o ta) (c:Cls X.K C) (hm:Jl X.K C m f) (F:FnOk X.prog X.w X.K X.mg X.base CX k f fd ps sp) (hr:Room k X.A) (hb:Binds X.K fd ps ds) (hd:Vals dvs ds) (hx:jF CX X E) (ha:PA X (e::es) t)
  (hst:starEach (e::es) X.env=(false,eval e X.env)::starEach es X.env:=by rfl) (hpl:(backTo pos (starEach es X.env)).any (·.1)=false:=by rfl)
  (ht:eval (.Call (.Attribute o m apos) (e::es) [] pos) X.env=(do
   let ov←eval o X.env
   standAt apos.atName
   let (f,first)←holding [ov] (getMethod ov m pl)
   callWith pos f first (backTo pos (starEach (e::es) X.env)) (backToKw pos (keywordEach [] X.env))):=by rfl):
  PE X (.Call (.Attribute o m apos) (e::es) [] pos) (CO C m sp dvs E ta t):=by
 intro pins s σ H Q I h
 refine PySem.W.methodCall_KW (pl:=pl) (thn (he pins s σ H _ I h) fun u s1 ⟨x,H1,I1,rx,a,dx,fs,ex,ea,l,q⟩=>?_) ht
 subst ex
 obtain rfl:u=Value.ref a:=rx
 refine sR I1 ea c hm l ?_
 refine PySem.W.callWith_K (first:=[.ref a]) (h₀:=X.base) I.ok.mod.kin hm.kp (thn (ha pos pins s1 σ H1 _ I1 q) fun us s2 ⟨vs,H2,I2,r,q2⟩=>⟨I2.kIn,?_⟩) hst hpl
 exact wx (us:=.ref a::us) (vs:=.ref a::vs) F hr hb hd hx I2 (.cons rfl r) q2
theorem F4 {pl:Sem Bool} (he:PE X o ta) (c:Cls X.K C) (hm:Jl X.K C m f) (F:FnOk X.prog X.w X.K X.mg X.base CX k f fd ps sp) (hr:Room k X.A) (hb:Binds X.K fd ps ds) (hd:Vals dvs ds) (hx:jF CX X E)
  (ht:eval (.Call (.Attribute o m apos) [] [] pos) X.env=(do
   let ov←eval o X.env
   standAt apos.atName
   let (f,first)←holding [ov] (getMethod ov m pl)
   callWith pos f first (backTo pos (starEach [] X.env)) (backToKw pos (keywordEach [] X.env))):=by rfl):
  PE X (.Call (.Attribute o m apos) [] [] pos) (CO C m sp dvs E ta AM):=by
 intro pins s σ H Q I h
 refine PySem.W.methodCall_KW (pl:=pl) (thn (he pins s σ H _ I h) fun u s1 ⟨x,H1,I1,rx,a,dx,fs,ex,ea,l,q⟩=>?_) ht
 subst ex
 obtain rfl:u=Value.ref a:=rx
 refine sR I1 ea c hm l ?_
 exact PySem.W.callWith_K0 (first:=[.ref a]) I1.kIn hm.kp (wx (us:=[.ref a]) (vs:=[.ref a]) F hr hb hd hx I1 (.cons rfl .nil) q)
structure Mk (K:PySem.W.Frag) (C f:Addr):Prop where
 makes:PySem.W.makesIn K C=true
 init:PySem.W.findIn K (.ref C) "__init__"=some (some (.ref f))
 fn:PySem.W.isFn K (.ref f)=true
 kp:PySem.W.keepIn K (.ref C)=true
theorem yT {pins:List (Addr×Obj)} {σ:St} {H:Hp} {s:Shared} {Q:VK} {us:List Value} {vs:List V} (M:Mk X.K C f) (F:FnOk X.prog X.w X.K X.mg X.base CX k f fd ps sp) (hr:Room (k+1) X.A) (hb:Binds X.K fd ps ds) (hd:Vals dvs ds)
  (hx:jF CX X E) (I:Inv X pins σ H s) (r:Vals vs us)
  (h:∀x dx,H x=none→H dx=none→dx≠x→sp (.ref x::(vs++dvs)) (upd (upd H dx (.own x)) x (.ins C dx [])) (fun v H2=>v=.non∧Q (.ref x) H2) E):
  wpAny (model X.prog X.w) X.A (call (.ref C) us) (EP X pins σ Q) X.xe s:=by
 have hq:=h (s.heap.objs.size+1) s.heap.objs.size (I.hok.fresh (Nat.le_succ _)) (I.hok.fresh (Nat.le_refl _)) (Nat.ne_of_lt (Nat.lt_succ_self _))
 have I2:=Inv.made (C:=C) I
 have r2:Vals (V.ref (s.heap.objs.size+1)::(vs++dvs)) (Value.ref (s.heap.objs.size+1)::(us++ds)):=.cons rfl (r.append hd)
 have hl:(Value.ref (s.heap.objs.size+1)::us++ds).length=ps.length:=by
  have e:=r2.length
  rw [F.len _ _ _ _ hq] at e
  exact e.symm
 refine wpAny_call (Gm (f:=f) I.kIn M.makes M.init (beq_iff_eq.mp M.fn) (codeAny_mono (F.run _ X.stack _ _ ⟨Value.ref (s.heap.objs.size+1)::us,[]⟩ (Value.ref (s.heap.objs.size+1)::(us++ds)) _ _ E (hr.make C us [])
  (I2.env0.make C us []) (hb _ (Value.ref (s.heap.objs.size+1)::us) I2.kIn hl) r2 hq) fun r s' hq'=>?_))
 cases r with
 | error e=>exact hx pins σ _ _ e s' I2 hq'
 | ok fl=>
  cases fl with
  | ret u=>
   obtain⟨v,H',I3,rv,ev,q3⟩:=I2.after hq'
   subst ev
   exact⟨rv,⟨V.ref (s.heap.objs.size+1),H',I3,rfl,q3⟩⟩
  | next=>exact False.elim hq'
  | brk=>exact False.elim hq'
  | cont=>exact False.elim hq'
theorem HV (M:Mk X.K C f) (F:FnOk X.prog X.w X.K X.mg X.base CX k f fd ps sp) (hr:Room (k+1) X.A) (hg:Gl X x) (hm:X.mg x=some (.ref C)) (hb:Binds X.K fd ps ds) (hd:Vals dvs ds) (hx:jF CX X E)
  (ha:PA X (e::es) t) (hdb:(x == ("__debug__": Str))=false:=by decide) (he:starEach (e::es) X.env=(false,eval e X.env)::starEach es X.env:=by rfl) (hpl:(backTo pos (starEach es X.env)).any (·.1)=false:=by rfl):
  PE X (.Call (.Name x p) (e::es) [] pos) (CP C sp dvs E t):=by
 intro pins s σ H Q I h
 refine wpAny_Call_Name_kw (nI I hg hm ?_ hdb)
 refine PySem.W.callWith_K (h₀:=X.base) I.ok.mod.kin M.kp (thn (ha pos pins s σ H _ I h) fun us s1 ⟨vs,H1,I1,r,q⟩=>⟨I1.kIn,?_⟩) he hpl
 exact yT M F hr hb hd hx I1 r q
theorem F5 (M:Mk X.K C f) (F:FnOk X.prog X.w X.K X.mg X.base CX k f fd ps sp) (hr:Room (k+1) X.A) (hg:Gl X x) (hm:X.mg x=some (.ref C)) (hb:Binds X.K fd ps ds) (hd:Vals dvs ds) (hx:jF CX X E)
  (hdb:(x == ("__debug__": Str))=false:=by decide):PE X (.Call (.Name x p) [] [] pos) (CP C sp dvs E AM):=by
 intro pins s σ H Q I h
 refine wpAny_Call_Name_kw (nI I hg hm ?_ hdb)
 exact PySem.W.callWith_K0 I.kIn M.kp (yT (us:=[]) M F hr hb hd hx I .nil h)
end
structure aD (N P:List Str) (sc:Scope):Prop where
 kind:sc.kind=.function
 co:sc.isCoroutine=false
 gen:sc.isGenerator=false
 nd:N.Nodup
 pre:N.take P.length=P
 par:∀x∈P,sc.names.lookup x=some .local∨sc.names.lookup x=some .cell
 nofree:∀y∈sc.names,y.2≠.free
theorem vF {kindOf:Str→Option NameKind} {x:Str}:∀{binds:List (Str×Value)} {m:Str→Option Value},(∀v,(x,v)∉binds)→bindL kindOf binds m x=m x
 | [],_,_=>rfl
 | (n,v)::r,m,h=>by
  unfold bindL
  rw [vF fun w hw=>h w (List.mem_cons_of_mem _ hw)]
  split
  ·have:x≠n:=by rintro rfl; exact h v List.mem_cons_self
   simp [this]
  ·rfl
theorem vH {kindOf:Str→Option NameKind} {x:Str}:∀{binds:List (Str×Value)} {m:Str→Option Value},(∀v,(x,v)∉binds)→bindC kindOf binds m x=m x
 | [],_,_=>rfl
 | (n,v)::r,m,h=>by
  unfold bindC
  rw [vH fun w hw=>h w (List.mem_cons_of_mem _ hw)]
  split
  ·rfl
  ·have:x≠n:=by rintro rfl; exact h v List.mem_cons_self
   simp [this]
theorem vG {kindOf:Str→Option NameKind} {x:Str} {v:Value}:∀{P:List Str} {vs:List Value} {i:Nat} {m:Str→Option Value},P.Nodup→P[i]?= some x→vs[i]?= some v→kindOf x=some .local→
  bindL kindOf (P.zip vs) m x=some v
 | [],_,_,_,_,h,_,_=>by simp at h
 | _::_,[],_,_,_,_,h,_=>by simp at h
 | p::P,w::vs,0,m,nd,h1,h2,hk=>by
  simp at h1 h2; subst h1; subst h2
  show bindL kindOf ((p,w)::P.zip vs) m p=_
  unfold bindL
  rw [vF fun v hv=>(List.nodup_cons.mp nd).1 (List.of_mem_zip hv).1,if_pos hk]
  simp
 | p::P,w::vs,i+1,m,nd,h1,h2,hk=>by
  show bindL kindOf ((p,w)::P.zip vs) m x=_
  unfold bindL
  exact vG (i:=i) (List.nodup_cons.mp nd).2 (by simpa using h1) (by simpa using h2) hk
theorem vI {kindOf:Str→Option NameKind} {x:Str} {v:Value}:∀{P:List Str} {vs:List Value} {i:Nat} {m:Str→Option Value},P.Nodup→P[i]?= some x→vs[i]?= some v→kindOf x≠some .local→
  bindC kindOf (P.zip vs) m x=some v
 | [],_,_,_,_,h,_,_=>by simp at h
 | _::_,[],_,_,_,_,h,_=>by simp at h
 | p::P,w::vs,0,m,nd,h1,h2,hk=>by
  simp at h1 h2; subst h1; subst h2
  show bindC kindOf ((p,w)::P.zip vs) m p=_
  unfold bindC
  rw [vH fun v hv=>(List.nodup_cons.mp nd).1 (List.of_mem_zip hv).1,if_neg hk]
  simp
 | p::P,w::vs,i+1,m,nd,h1,h2,hk=>by
  show bindC kindOf ((p,w)::P.zip vs) m x=_
  unfold bindC
  exact vI (i:=i) (List.nodup_cons.mp nd).2 (by simpa using h1) (by simpa using h2) hk
noncomputable def start (N:List Str) (vs:List V):St:=vs.map some++List.replicate (N.length - vs.length) none
noncomputable def zZ (CX:CXT) (P:Program) (w:World) (K:PySem.W.Frag) (mg:Str→Option Value) (base:Heap) (N:List Str) (qual:Str) (scope:Scope) (f:Addr) (cd:Value) (A:Around) (outer:List Env) (s:Shared) (H:Hp) (E:XK):Cx where
 prog:=P
 w:=w
 K:=K
 mg:=mg
 base:=base
 A:=A.deeper (envOfC qual scope s.heap.objs.size f cd)
 N:=N
 s_0:=s
 H_0:=H
 env:=envOfC qual scope s.heap.objs.size f cd
 outer:=outer
 stack:=envOfC qual scope s.heap.objs.size f cd::outer
 ex:=[]
 calm:=true
 fn:=fun _=>true
 pn:=[]
 xe:=fun e s'=>wpAny (model P w) (A.deeper (envOfC qual scope s.heap.objs.size f cd)) (leaving (envOfC qual scope s.heap.objs.size f cd) e) (fun _ s''=>CX outer H s E e s'') (fun e' s''=>CX outer H s E e' s'') s'
theorem z4 {sc:Scope} {n:Nat} {x:Str} (h:sc.names.lookup x=some .cell):∃c,(cellsFrom n sc.names []).lookup x=some c:=by
 have q:=PySem.W.cellsFrom_some sc.names n [] (.inl h)
 exact Option.isSome_iff_exists.mp q
theorem EH {CX:CXT} {P:Program} {w:World} {K:PySem.W.Frag} {mg:Str→Option Value} {base:Heap} {N ps:List Str} {qual:Str} {scope:Scope} {f:Addr} {cd:Value} {A:Around} {outer:List Env} {s s1:Shared} {H:Hp} {E:XK} {us:List Value} {vs:List V}
  (S:aD N ps scope) (hd:A.handled=none) (e0:Env0 P w K mg base A outer s H) (hl:vs.length=ps.length) (r:Vals vs us)
  (x:InCallC s s.heap.objs.size (bindL (envOfC qual scope s.heap.objs.size f cd).kindOf (ps.zip us) fun _=>none) (cellsFrom (s.heap.objs.size+1) scope.names []) (bindC (envOfC qual scope s.heap.objs.size f cd).kindOf (ps.zip us) fun _=>none) s1):
  Inv (zZ CX P w K mg base N qual scope f cd A outer s H E) [] (start N vs) H s1:=by
 have hpl:ps.length≤N.length:=by have:=congrArg List.length S.pre; rw [List.length_take] at this; omega
 obtain⟨h1,tk,rfl,hk⟩:=x.done
 have noA:∀b:Addr,b∉(zZ CX P w K mg base N qual scope f cd A outer s H E).ex:=fun b z=>absurd (show b∈([]:List Addr) from z) (by simp)
 refine⟨⟨e0.mod,S.kind,rfl,rfl,Nat.le_refl _,fun y z c h1 h2=>?_,fun y hy=>?_,fun y c _ h=>?_,fun _=>hd,Around.frames_deeper e0.frames,.inr ⟨rfl,rfl⟩,fun b z=>absurd z (noA b),e0.bs,e0.bsz,fun b _ _=>noA b,fun b z=>absurd z (noA b),e0.funs,e0.frf⟩,
  rfl,e0.bare,Un.kept hk,⟨_,x.toInCall.ns,fun i y v h1 h2 h3=>?_⟩,fun y c h=>⟨_,x.cell y c h⟩,e0.hok.fresh (Nat.le_refl _),fun y c h=>?_,fun p hp=>absurd (show p∈([]:List (Addr×Obj)) from hp) (by simp),e0.hok.kept hk,?_⟩
 ·exact name_of_addr x.apart (PySem.mem_of_lookup h1) (PySem.mem_of_lookup h2)
 ·have hy:scope.names.lookup y=some .cell∨scope.names.lookup y=some .free:=hy
  rcases hy with hy | hy
  ·exact z4 hy
  ·exact absurd rfl (S.nofree _ (PySem.mem_of_lookup hy))
 ·exact Nat.le_of_lt (x.above y c (PySem.mem_of_lookup h))
 ·have hi:i < vs.length:=by
   unfold start at h2
   by_cases hi:i < vs.length
   ·exact hi
   ·rw [List.getElem?_append_right (by simpa using hi)] at h2
    rw [List.getElem?_replicate] at h2
    split at h2 <;> cases h2
  have ha:vs[i]?= some v:=by
   unfold start at h2
   rw [List.getElem?_append_left (by simpa using hi),List.getElem?_map] at h2
   cases e:vs[i]? with
   | none=>rw [e] at h2; cases h2
   | some a=>rw [e] at h2; cases h2; rfl
  obtain⟨u,hu,rv⟩:=r.get ha
  have hp:ps[i]?= some y:=by
   rw [←S.pre,List.getElem?_take_of_lt (by omega)]; exact h1
  have ndP:ps.Nodup:=by rw [←S.pre]; exact S.nd.sublist (List.take_sublist _ _)
  refine⟨u,rv,?_⟩
  rcases S.par y (List.mem_of_getElem? hp) with k | k
  ·exact .inl ⟨k,vG ndP hp hu k⟩
  ·obtain⟨c,e⟩:=z4 (n:=s.heap.objs.size+1) k
   refine .inr ⟨.inl k,c,e,?_⟩
   have q:=x.cell y c e
   rw [vI ndP hp hu (by show scope.names.lookup y≠_; rw [k]; decide)] at q
   exact q
 ·exact e0.hok.fresh (Nat.le_of_lt (x.above y c (PySem.mem_of_lookup h)))
 ·unfold start
  show _=N.length
  rw [List.length_append,List.length_map,List.length_replicate]
  omega
theorem LJ {CX:CXT} {P:Program} {w:World} {K:PySem.W.Frag} {mg:Str→Option Value} {base:Heap} {k:Nat} {f:Addr} {name qual:Str} {params:Arguments} {body:List Stmt} {scope:Scope} {dV kV doc pm cdv ct oc:Value} {an od:Option Addr}
  {osl:Array (Option Value)} {N ps:List Str} {sp:Sp} (lk:K.lookup f=some ⟨oc,od,.func (PySem.W.fnOf name qual params body scope dV kV doc pm an cdv ct),osl⟩) (hcd:PySem.W.codeIn K cdv qual=true) (S:aD N ps scope)
  (len:∀vs H Q E,sp vs H Q E→vs.length=ps.length)
  (hbody:∀(A:Around) (outer:List Env) (s:Shared) (H:Hp) (vs:List V) (Q:VK) (E:XK),Room k (A.deeper (envOfC qual scope s.heap.objs.size f cdv))→sp vs H Q E→
   ∃t,PSs (zZ CX P w K mg base N qual scope f cdv A outer s H E) body t∧t {nx:=fun _ H'=>Q .non H',rt:=Q} (start N vs) H):
  FnOk P w K mg base CX (k+1) f (PySem.W.fnOf name qual params body scope dV kV doc pm an cdv ct) ps sp:=by
 refine⟨len,fun A outer s H args us vs Q E hr e0 hb r hsp=>?_⟩
 have hl:=len _ _ _ _ hsp
 have KX:K.In s.heap:=e0.mod.kin.keeps fun b o e=>(e0.bs b o e).1
 have lim:s.heap.NoLimit:=e0.mod.nolimit.keeps fun b o e=>(e0.bs b o e).1
 have hkind:∀y∈ps.zip us,scope.names.lookup y.1=some .local∨(scope.names.lookup y.1=some .cell∧((cellsFrom (s.heap.objs.size+1) scope.names []).lookup y.1).isSome=true):=fun ⟨n,v⟩ hy=>by
  rcases S.par n (List.of_mem_zip hy).1 with q | q
  ·exact .inl q
  ·exact .inr ⟨q,PySem.W.cellsFrom_some _ _ _ (.inl q)⟩
 refine codeAny_call_function hr.depth (KX _ _ lk) rfl S.co S.gen rfl (PySem.W.codeRec_of KX hcd) (hb _ _ _ _ ?_)
 refine wpAny_newFunctionEnv_cells S.kind hkind fun env he s1 x=>?_
 subst he
 refine⟨lim.keeps x.toInCall.keep,codeAny_func ?_⟩
 obtain⟨t,ht,hq⟩:=hbody A outer s H vs Q E (hr.deeper _) hsp
 have I:Inv (zZ CX P w K mg base N qual scope f cdv A outer s H E) [] (start N vs) H s1:=EH S hr.hd e0 hl r x
 refine wpAny_mono (ht [] s1 (start N vs) H _ I hq) (fun fl s' hs=>?_) fun e s' hs=>hs
 have fin:∀{σ':St} {H':Hp} {v:V} {u:Value},Inv (zZ CX P w K mg base N qual scope f cdv A outer s H E) [] σ' H' s'→RelV v u→Q v H'→CE outer P w H s Q u s':=
  fun {σ' H' v u} J rv q=>⟨v,H',J.os,J.bare,J.base,J.hok,rv,q⟩
 cases fl with
 | ret u=>
  obtain⟨v,σ',H',J,rv,q⟩:=hs
  exact fin J rv q
 | next=>
  obtain⟨σ',H',J,q⟩:=hs
  exact fin (v:=V.non) (u:=Value.none) J rfl q
 | brk=>
  obtain⟨_,_,_,q⟩:=hs
  exact False.elim q
 | cont=>
  obtain⟨_,_,_,q⟩:=hs
  exact False.elim q
end L2
namespace L2
open PySem PySem.Spec PyProof.Rows
section
variable {X:Cx} {x:Str} {p pos:Pos} {e:Expr} {es:List Expr} {t:TA} {id T:String} {r:List V→Hp→VK→Prop}
noncomputable def tCB (r:List V→Hp→VK→Prop) (t:TA):TE:=fun σ H Q=>t σ H fun vs H1=>r vs H1 Q
theorem ba (hc:gn X (.builtin id) r) (hg:Gl X x) (hm:X.mg x=none) (hv:bootBuiltins x=some (.builtin id)) (ha:PA X (e::es) t) (hn:x≠"__name__":=by decide) (hdb:(x == ("__debug__": Str))=false:=by decide)
  (he:starEach (e::es) X.env=(false,eval e X.env)::starEach es X.env:=by rfl) (hpl:(backTo pos (starEach es X.env)).any (·.1)=false:=by rfl):PE X (.Call (.Name x p) (e::es) [] pos) (tCB r t):=by
 intro pins s σ H Q I h
 refine wpAny_Call_Name_kw (mK I hg hm hv ?_ hn hdb)
 exact PyProof.Rows.callWith_builtin1 (thn (ha pos pins s σ H _ I h) fun us s1 ⟨vs,H1,I1,r1,q1⟩=>hc pins s1 σ H1 vs us Q I1 r1 q1) he hpl
theorem oO (hc:gn X (.type T) r) (hg:Gl X x) (hm:X.mg x=none) (hv:bootBuiltins x=some (.type T)) (ha:PA X (e::es) t) (hn:x≠"__name__":=by decide) (hdb:(x == ("__debug__": Str))=false:=by decide)
  (he:starEach (e::es) X.env=(false,eval e X.env)::starEach es X.env:=by rfl) (hpl:(backTo pos (starEach es X.env)).any (·.1)=false:=by rfl):PE X (.Call (.Name x p) (e::es) [] pos) (tCB r t):=by
 intro pins s σ H Q I h
 refine wpAny_Call_Name_kw (mK I hg hm hv ?_ hn hdb)
 exact PyProof.Rows.callWith_type1 (thn (ha pos pins s σ H _ I h) fun us s1 ⟨vs,H1,I1,r1,q1⟩=>hc pins s1 σ H1 vs us Q I1 r1 q1) he hpl
end
end L2
namespace HT
open PySem PyProof.Rows
section
variable {prog:Program} {w:World} {A:Around} {E:Value→Shared→Prop} {s:Shared}
noncomputable def sIx (n d:Nat):Option Int→Nat
 | none=>d
 | some v=>if v < 0 then(v+(n:Int)).toNat else min v.toNat n
theorem sIx_nat (n d k:Nat):sIx n d (some (k:Int))=min k n:=by
 show(if (k:Int) < 0 then((k:Int)+(n:Int)).toNat else min (k:Int).toNat n)=min k n
 rw [if_neg (by omega),Int.toNat_natCast]
theorem J0 (n d:Nat) (hd:d≤n) (o:Option Int):sIx n d o≤n:=by
 cases o with
 | none=>exact hd
 | some v=>
  show(if v < 0 then(v+(n:Int)).toNat else min v.toNat n)≤n
  by_cases hv:v < 0
  ·rw [if_pos hv]; omega
  ·rw [if_neg hv]; exact Nat.min_le_right _ _
theorem DJ (v:Int) (n d:Nat):(if v < 0 then max (v+(n:Int)) 0 else min v (n:Int))=((sIx n d (some v):Nat):Int):=by
 show(if v < 0 then max (v+(n:Int)) 0 else min v (n:Int))=(((if v < 0 then(v+(n:Int)).toNat else min v.toNat n):Nat):Int)
 by_cases hv:v < 0
 ·simp only [if_pos hv]; omega
 ·simp only [if_neg hv]; omega
theorem Cu (lo hi:Option Int) (n:Nat):Builtin.Slice.sliceAdjust lo hi 1 (n:Int)=(((sIx n 0 lo:Nat):Int),((sIx n n hi:Nat):Int)):=by
 have h1:¬((1:Int) < 0):=by omega
 unfold Builtin.Slice.sliceAdjust
 simp only [h1,if_false]
 refine Prod.ext ?_ ?_
 ·cases lo with
  | none=>rfl
  | some v=>exact DJ v n 0
 ·cases hi with
  | none=>rfl
  | some v=>exact DJ v n n
theorem Bo (i j:Nat):Builtin.Slice.slicePlaces (i:Int) (j:Int) 1=j - i:=by
 unfold Builtin.Slice.slicePlaces
 have h1:(1:Int) > 0:=by omega
 simp only [h1,if_true,Int.ediv_one]
 split <;> omega
theorem rD {v:Value} {o:Option Int} {Q:Option Int→Shared→Prop} (p:IsPart v o) (h:Q o s):wpAny (model prog w) A (Builtin.Slice.slicePartIndex v) Q E s:=by
 cases p with
 | none=>exact slicePart_none h
 | int i t=>exact slicePart_int h
theorem ou {sl:Addr} {vl vu:Value} {lo hi:Option Int} {n:Nat} {Q:Int×Int×Nat→Shared→Prop} (hs:s.heap.IsSliceOf sl vl vu .none) (pl:IsPart vl lo) (pu:IsPart vu hi)
  (h:Q (((sIx n 0 lo:Nat):Int),1,sIx n n hi - sIx n 0 lo) s):wpAny (model prog w) A (Builtin.Slice.sliceApplied (.ref sl) (pure (n:Int))) Q E s:=by
 obtain⟨os,hos,hcs,hds⟩:=id hs
 unfold Builtin.Slice.sliceApplied Builtin.Slice.sliceFields
 refine wpAny_bind (wpAny_bind (wpAny_field hos hds (x:=vl) rfl (wpAny_bind (wpAny_field hos hds (x:=vu) rfl (wpAny_bind (wpAny_field hos hds (x:=.none) rfl (wpAny_pure ?_)))))))
 refine wpAny_bind (slicePart_none ?_)
 show wpAny _ _ (if ((1:Int) == 0)=true then _ else _) _ _ s
 rw [if_neg (by decide)]
 refine wpAny_bind (rD pl (wpAny_bind (rD pu (wpAny_bind (wpAny_pure ?_)))))
 show wpAny _ _ (match Builtin.Slice.sliceAdjust lo hi 1 (n:Int) with | (lo,hi)=>pure (lo,(1:Int),Builtin.Slice.slicePlaces lo hi 1)) _ _ s
 rw [Cu lo hi n]
 show wpAny _ _ (pure (((sIx n 0 lo:Nat):Int),(1:Int),Builtin.Slice.slicePlaces ((sIx n 0 lo:Nat):Int) ((sIx n n hi:Nat):Int) 1)) _ _ s
 rw [Bo]
 exact wpAny_pure h
theorem F2 (xs:Array Value) (i k:Nat):((List.range k).filterMap fun (m:Nat)=>xs[((i:Int)+(m:Int)*1).toNat]?).toArray=((xs.toList.drop i).take k).toArray:=by
 have e:(fun (m:Nat)=>xs[((i:Int)+(m:Int)*1).toNat]?)=fun m=>xs[i+m]?:=by
  funext m
  have:((i:Int)+(m:Int)*1).toNat=i+m:=by omega
  rw [this]
 rw [e]
 have:=pick_run xs i k
 rw [List.filterMap_map] at this
 have e2:((fun x=>xs[x]?) ∘ fun x=>i+x)=fun m=>xs[i+m]?:=rfl
 rw [e2] at this
 rw [this]
theorem getItem_tuple_cut {t sl:Addr} {items:Array Value} {vl vu:Value} {lo hi:Option Int} {Q:Value→Shared→Prop} (ht:IsTup s.heap t items) (hs:s.heap.IsSliceOf sl vl vu .none) (pl:IsPart vl lo) (pu:IsPart vu hi)
  (hw:¬(sIx items.size 0 lo=0∧sIx items.size items.size hi=items.size))
  (h:Q (.ref s.heap.objs.size) {s with heap:=s.heap.push {cls:=.type "tuple",data:=.seq ((items.toList.drop (sIx items.size 0 lo)).take (sIx items.size items.size hi - sIx items.size 0 lo)).toArray}})
  (hsz:items.size≤sizeLine):wpAny (model prog w) A (getItem (.ref t) (.ref sl)) Q E s:=by
 have htake:sizeOk (.seq ((items.toList.drop (sIx items.size 0 lo)).take (sIx items.size items.size hi - sIx items.size 0 lo)).toArray):=by
  show((items.toList.drop (sIx items.size 0 lo)).take (sIx items.size items.size hi - sIx items.size 0 lo)).toArray.size≤sizeLine
  rw [List.size_toArray,List.length_take,List.length_drop,Array.length_toList]
  omega
 have hj:sIx items.size items.size hi≤items.size:=J0 _ _ (Nat.le_refl _) hi
 obtain⟨os,hos,hcs,hds⟩:=id hs
 have hTs:s.TypeIs (.ref sl) "slice":=⟨os,hos,hcs⟩
 unfold getItem
 try with_reducible refine wpAny_holding ?_
 first | refine wpAny_bind (wpAny_pure ?_) | skip
 refine wpAny_bind (wpAny_sequenceKey ht.typeIs (by decide) ?_)
 refine wpAny_bind (wpAny_callSpecial?_slot (name:=Str.ofString "__getitem__") ht.typeIs PyProof.Rows.slot_tuple_getitem
  (wpAny_call_entry PyProof.Rows.slot_tuple_getitem ht.typeIs entry_tuple_getitem ?_ (args_tuple_getitem _ _)))
 show wpAny _ _ (Builtin.Tuple.tupleItemsOf (.ref t) >>= _) _ _ s
 refine wpAny_bind (tupleItemsOf_ ht ?_)
 refine wpAny_bind (wpAny_typeOf hTs ?_)
 rw [if_pos (by decide)]
 refine wpAny_bind (ou hs pl pu ?_)
 have hno:¬((((sIx items.size 0 lo:Nat):Int) == 0 && (1:Int) == 1 && (sIx items.size items.size hi - sIx items.size 0 lo) == items.size)=true):=by
  intro q
  rw [Bool.and_eq_true,Bool.and_eq_true] at q
  have q1:((sIx items.size 0 lo:Nat):Int)=0:=eq_of_beq q.1.1
  have q2:sIx items.size items.size hi - sIx items.size 0 lo=items.size:=eq_of_beq q.2
  exact hw ⟨by omega,by omega⟩
 show wpAny _ _ (if (((sIx items.size 0 lo:Nat):Int) == 0 && (1:Int) == 1 && (sIx items.size items.size hi - sIx items.size 0 lo) == items.size)=true then _ else _) _ _ s
 rw [if_neg hno,F2]
 first
  | exact wpAny_bind (m:=Builtin.Tuple.tupleExact _) (wpAny_newObj_type (wpAny_pure ⟨_,rfl,wpAny_pure h⟩) htake)
  | exact wpAny_bind (m:=Builtin.Tuple.tupleExact _) (wpAny_newObj_type (wpAny_bind (wpAny_pure (wpAny_pure ⟨_,rfl,wpAny_pure h⟩))) htake)
  | exact wpAny_bind (wpAny_bind (m:=Builtin.Tuple.tupleExact _) (wpAny_newObj_type (wpAny_pure (wpAny_pure ⟨_,rfl,wpAny_pure h⟩)) htake))
  | exact wpAny_bind (wpAny_bind (m:=Builtin.Tuple.tupleExact _) (wpAny_newObj_type (wpAny_pure ⟨_,rfl,wpAny_pure h⟩) htake))
end
end HT
namespace L2
open PySem PySem.Spec PyProof.Rows
noncomputable abbrev TO:=St→Hp→(Option Int→Hp→Prop)→Prop
noncomputable def PO (X:Cx) (e:Option Expr) (t:TO):Prop:=
 ∀(pins:List (Addr×Obj)) (s:Shared) (σ:St) (H:Hp) (Q:Option Int→Hp→Prop),Inv X pins σ H s→t σ H Q→
  wpAny (model X.prog X.w) X.A (evalPart e X.env) (fun u s'=>∃o H',Inv X pins σ H' s'∧IsPart u o∧Q o H') X.xe s
noncomputable def HD:TO:=fun _ H Q=>Q none H
noncomputable def K7 (t:TE):TO:=fun σ H Q=>t σ H fun x H1=>∃i,x=.int i∧Q (some i) H1
section
variable {X:Cx} {e:Expr} {te:TE} {lo hi:Option Expr} {tl th:TO} {pos p2:Pos}
theorem HS:PO X none HD:=by
 intro pins s σ H Q I h
 rw [evalPart_none]
 exact wpAny_pure ⟨none,H,I,.none,h⟩
theorem jl (h:PE X e te):PO X (some e) (K7 te):=by
 intro pins s σ H Q I hw
 rw [evalPart_some]
 refine thn (h pins s σ H _ I hw) fun u s1 ⟨x,H1,I1,r1,q1⟩=>?_
 obtain⟨i,rfl,q⟩:=q1
 obtain⟨t,rfl⟩:=r1
 exact⟨some i,H1,I1,.int i t,q⟩
noncomputable def SlR (X:Cx) (r:V→Option Int→Option Int→Hp→VK→Prop):Prop:=
 ∀(pins:List (Addr×Obj)) (s:Shared) (σ:St) (H:Hp) (x:V) (v vl vu:Value) (lo hi:Option Int) (sl:Addr) (Q:VK),Inv X pins σ H s→RelV x v→s.heap.IsSliceOf sl vl vu .none→IsPart vl lo→IsPart vu hi→r x lo hi H Q→
  ∃T id,typeLookup (.type T) "__getitem__"=pure (some (.builtin id))∧s.TypeIs v T∧wpAny (model X.prog X.w) X.A (getItem v (.ref sl)) (EP X pins σ Q) X.xe s
noncomputable def tSl (r:V→Option Int→Option Int→Hp→VK→Prop) (te:TE) (tl th:TO):TE:=fun σ H Q=>te σ H fun x H1=>tl σ H1 fun l H2=>th σ H2 fun u H3=>r x l u H3 Q
theorem nu {r:V→Option Int→Option Int→Hp→VK→Prop} (hr:SlR X r) (he:PE X e te) (hl:PO X lo tl) (hu:PO X hi th):PE X (.Subscript e (.Slice lo hi none p2) pos) (tSl r te tl th):=by
 intro pins s σ H Q I h
 refine Subscript_ (thn (he pins s σ H _ I h) fun v s1 ⟨x,H1,I1,r1,q1⟩=>?_)
 refine wpAny_Slice (thn (hl pins s1 σ H1 _ I1 q1) fun vl s2 ⟨l,H2,I2,pl,q2⟩=>thn (hu pins s2 σ H2 _ I2 q2) fun vu s3 ⟨u,H3,I3,pu,q3⟩=>?_)
 rw [evalPart_none]
 refine wpAny_pure ?_
 have I4:Inv X pins σ H3 {s3 with heap:=s3.heap.push {cls:=.type "slice",data:=.fields #[vl,vu,.none]}}:=I3.kept (t':=s3.toks) fun b ob q=>Heap.get?_push_of_some _ q
 obtain⟨T,id,hT,ht,hg⟩:=hr pins {s3 with heap:=s3.heap.push {cls:=.type "slice",data:=.fields #[vl,vu,.none]}} σ H3 x v vl vu l u s3.heap.objs.size Q I4 r1 (Heap.IsSliceOf.new ..) pl pu q3
 show wpAny (model X.prog X.w) X.A (subscriptTail e (.Slice lo hi none p2) v (.ref s3.heap.objs.size)) (EP X pins σ Q) X.xe {s3 with heap:=s3.heap.push {cls:=.type "slice",data:=.fields #[vl,vu,.none]}}
 exact tail_any (ops:=[.ref s3.heap.objs.size,v]) ht hT hg (by with_unfolding_all rfl)
noncomputable def lV (xs:List V) (lo hi:Option Int):List V:=(xs.drop (HT.sIx xs.length 0 lo)).take (HT.sIx xs.length xs.length hi - HT.sIx xs.length 0 lo)
theorem pZ (xs:List V) (lo hi:Option Int):(lV xs lo hi).length≤xs.length:=by
 unfold lV
 rw [List.length_take,List.length_drop]
 omega
noncomputable def Mz (K:PySem.W.Frag):V→Option Int→Option Int→Hp→VK→Prop:=fun x lo hi H Q=>∃a xs,x=.ref a∧SqT K H a xs∧
 ¬(HT.sIx xs.length 0 lo=0∧HT.sIx xs.length xs.length hi=xs.length)∧∀p,H p=none→Q (.ref p) (upd H p (.tup (lV xs lo hi)))
theorem JW:SlR X (Mz X.K):=by
 intro pins s σ H x v vl vu lo hi sl Q I rx hs pl pu h
 obtain⟨a,xs,rfl,hx,hw,q⟩:=h
 cases rx
 obtain⟨its,r,ht,hz⟩:=I.tuple hx
 have hlen:its.toArray.size=xs.length:=by rw [List.size_toArray]; exact r.length.symm
 refine⟨"tuple",_,PyProof.Rows.slot_tuple_getitem.lookup,ht.typeIs,?_⟩
 refine HT.getItem_tuple_cut ht hs pl pu (by rw [hlen]; exact hw) ?_ (by rw [hlen]; exact hz)
 rw [hlen]
 refine⟨.ref s.heap.objs.size,_,I.laid (t':=s.toks) (o:=.tup (lV xs lo hi)) (fun b ob q=>Heap.get?_push_of_some _ q) (Nat.le_refl _) ?_,rfl,q _ (I.hok.fresh (Nat.le_refl _))⟩
 exact⟨Nat.le_trans (pZ xs lo hi) hz,_,(r.drop (HT.sIx xs.length 0 lo)).take (HT.sIx xs.length xs.length hi - HT.sIx xs.length 0 lo),IsTup.new _ _⟩
end
end L2
namespace L2
open PySem PySem.Spec PyProof.Rows
noncomputable def ixN (n:Nat) (i:Int):Option Nat:=if 0≤i then(if i < n then some i.toNat else none) else if -(n:Int)≤i then some (i+n).toNat else none
noncomputable def atI {α:Type} (xs:List α) (i:Int):Option α:=(ixN xs.length i).bind fun j=>xs[j]?
theorem Dh {n:Nat} {i:Int} {j:Nat} (h:ixN n i=some j):seqIndex? i n=some j∧j < n∧-(n:Int)≤i∧i < n:=by
 unfold ixN at h
 by_cases h0:0≤i
 ·rw [if_pos h0] at h
  by_cases h1:i < n
  ·rw [if_pos h1] at h
   have e:i.toNat=j:=Option.some.inj h
   exact⟨by rw [seqIndex_of h0 h1,e],by omega,by omega,h1⟩
  ·rw [if_neg h1] at h; cases h
 ·rw [if_neg h0] at h
  by_cases h1:-(n:Int)≤i
  ·rw [if_pos h1] at h
   have e:(i+n).toNat=j:=Option.some.inj h
   exact⟨by rw [seqIndex_neg (by omega) h1,e],by omega,h1,by omega⟩
  ·rw [if_neg h1] at h; cases h
theorem DN {α:Type} {xs:List α} {i:Int} {v:α} (h:atI xs i=some v):∃j,seqIndex? i xs.length=some j∧xs[j]?= some v∧j < xs.length∧-(xs.length:Int)≤i∧i < xs.length:=by
 unfold atI at h
 cases e:ixN xs.length i with
 | none=>rw [e] at h; cases h
 | some j=>
  rw [e] at h
  obtain⟨h1,h2,h3,h4⟩:=Dh e
  exact⟨j,h1,h,h2,h3,h4⟩
theorem Ja {α:Type} {xs:List α} {j:Nat} {v:α} (h:xs[j]?= some v):atI xs (j:Int)=some v:=by
 have hj:j < xs.length:=(List.getElem?_eq_some_iff.mp h).1
 have e:ixN xs.length (j:Int)=some j:=by
  unfold ixN
  rw [if_pos (by omega),if_pos (by omega)]; simp
 unfold atI; rw [e]; exact h
theorem G6 {α:Type} (xs:List α) (v:α):atI (xs++[v]) (-1)=some v:=by
 have hl:(xs++[v]).length=xs.length+1:=by simp
 have e:ixN (xs++[v]).length (-1)=some xs.length:=by
  unfold ixN
  rw [hl,if_neg (by decide),if_pos (by omega)]
  congr 1
  omega
 unfold atI
 rw [e]
 show(xs++[v])[xs.length]?= some v
 simp
noncomputable def Jk (b:Expr):Prop:=∀o i,subscripted b false o i=operate [o,i] (getItem o i)
noncomputable def IxR (X:Cx) (r:R2):Prop:=
 ∀(value slice:Expr) (pins:List (Addr×Obj)) (s:Shared) (σ:St) (H:Hp) (x y:V) (v u:Value) (Q:VK),Inv X pins σ H s→RelV x v→RelV y u→r x y H Q→
  subscripted slice false v u=operate [v,u] (getItem v u)→wpAny (model X.prog X.w) X.A (subscriptTail value slice v u) (EP X pins σ Q) X.xe s
noncomputable def MtR (X:Cx) (id:String) (r:V→List V→Hp→VK→Prop):Prop:=
 ∀(pins:List (Addr×Obj)) (s:Shared) (σ:St) (H:Hp) (x:V) (xs:List V) (v:Value) (us:List Value) (Q:VK),Inv X pins σ H s→RelV x v→Vals xs us→r x xs H Q→
  wpAny (model X.prog X.w) X.A (call (.builtin id) (v::us)) (EP X pins σ Q) X.xe s
section
variable {X:Cx} {a b:Expr} {ta tb:TE} {pos:Pos}
theorem aA {r:R2} (hr:IxR X r) (ha:PE X a ta) (hb:PE X b tb) (hs:Jk b):PE X (.Subscript a b pos) (tOp r ta tb):=by
 intro pins s σ H Q I h
 exact Subscript_ (KI ha hb I h fun v u s2 x y H2 I2 rx ry q=>hr a b pins s2 σ H2 x y v u Q I2 rx ry q (hs _ _))
noncomputable def Lq (K:PySem.W.Frag):R2:=fun x y H Q=>∃p xs i v,x=.ref p∧y=.int i∧SqL K H p xs∧atI xs i=some v∧Q v H
noncomputable def Lp (K:PySem.W.Frag):R2:=fun x y H Q=>∃p xs i v,x=.ref p∧y=.int i∧SqT K H p xs∧atI xs i=some v∧Q v H
theorem aQ:IxR X (Lq X.K):=by
 intro value slice pins s σ H x y v u Q I rx ry h hs
 obtain⟨p,xs,i,z,rfl,rfl,hq,he,q⟩:=h
 cases rx
 obtain⟨t,rfl⟩:=ry
 obtain⟨its,r,pl,hz⟩:=I.list hq
 obtain⟨j,h1,h2,h3,h4,h5⟩:=DN he
 obtain⟨w,ew,rw'⟩:=r.get h2
 have hl:=r.length
 have hn:=sC
 have fin:EP X pins σ Q w s:=⟨z,H,I,rw',q⟩
 by_cases h0:0≤i
 ·have hj:i.toNat=j:=by
   rw [seqIndex_of h0 h5] at h1
   exact Option.some.inj h1
  exact item_listR pl.isList h0 (by omega) (by rw [hj]; simpa using ew) fin hs
 ·have hj:(i+(its.toArray.size:Int)).toNat=j:=by
   rw [seqIndex_neg (by omega) h4] at h1
   rw [List.size_toArray,←hl]
   exact Option.some.inj h1
  exact subscriptTail_builtinR (x:=w) pl.isList.typeIs slot_list_getitem.lookup
   (wpAny_getItem_list_neg (Q:=fun r s'=>r=w∧EP X pins σ Q r s') pl.isList (by omega) (by rw [List.size_toArray] <;> omega) (by omega) (by rw [hj]; simpa using ew) ⟨rfl,fin⟩) hs
theorem aG:IxR X (Lp X.K):=by
 intro value slice pins s σ H x y v u Q I rx ry h hs
 obtain⟨p,xs,i,z,rfl,rfl,hq,he,q⟩:=h
 cases rx
 obtain⟨t,rfl⟩:=ry
 obtain⟨its,r,pl,hz⟩:=I.tuple hq
 obtain⟨j,h1,h2,h3,h4,h5⟩:=DN he
 obtain⟨w,ew,rw'⟩:=r.get h2
 have hl:=r.length
 have hn:=sC
 have fin:EP X pins σ Q w s:=⟨z,H,I,rw',q⟩
 exact subscriptTail_builtinR (x:=w) pl.typeIs slot_tuple_getitem.lookup
  (getItem_tuple (j:=j) (Q:=fun r s'=>r=w∧EP X pins σ Q r s') pl (by omega) (by omega) (by rw [List.size_toArray,←hl]; exact h1) (by simpa using ew) ⟨rfl,fin⟩) hs
theorem BJ (its:List Value) (n j:Nat) (u:Value):Obj.mapSeq (·.setIfInBounds j u) {cls:=.type "list",data:=.seq its.toArray n}={cls:=.type "list",data:=.seq (its.set j u).toArray n}:=by
 simp [Obj.mapSeq]
theorem Inv.lst {pins:List (Addr×Obj)} {σ:St} {H:Hp} {s:Shared} {p:Addr} {xs:List V} (I:Inv X pins σ H s) (h:H p=some (.lst xs)):
  ∃(its:List Value) (n:Nat),Vals xs its∧s.heap.get? p=some {cls:=.type "list",data:=.seq its.toArray n}∧xs.length≤sizeLine:=by
 obtain⟨z,its,n,r,e⟩:=I.hok p _ h
 exact⟨its,n,r,e,z⟩
theorem Inv.lstUpd {pins:List (Addr×Obj)} {σ:St} {H:Hp} {s:Shared} {p:Addr} {xs ys:List V} {its its':List Value} {n n':Nat} {f:Obj→Obj} (I:Inv X pins σ H s) (h:H p=some (.lst xs))
  (ho:s.heap.get? p=some {cls:=.type "list",data:=.seq its.toArray n}) (hf:f {cls:=.type "list",data:=.seq its.toArray n}={cls:=.type "list",data:=.seq its'.toArray n'}) (r:Vals ys its') (hz:ys.length≤sizeLine) (t:Nat):
  Inv X pins σ (upd H p (.lst ys)) {s with heap:=s.heap.update p f,toks:=t}:=by
 have e:(s.heap.update p f).get? p=some {cls:=.type "list",data:=.seq its'.toArray n'}:=by
  rw [Heap.get?_update_self f ho (by rw [hf] <;> rfl),hf]
 refine I.write (x:=p) (e:=p) (by rw [h]; trivial) (.inl rfl) (fun b u hb q=>(Heap.get?_update_other _ _ (Ne.symm hb)).trans q) ⟨_,e⟩ ?_
 exact⟨hz,its',n',r,e⟩
noncomputable def Lm:V→V→V→Hp→(Hp→Prop)→Prop:=fun o i v H Q=>∃p xs k j,o=.ref p∧i=.int k∧H p=some (.lst xs)∧ixN xs.length k=some j∧Q (upd H p (.lst (xs.set j v)))
theorem FR:L7 X Lm:=by
 intro pins s σ H o i v ov iv u Q I ro ri rv h
 obtain⟨p,xs,k,j,rfl,rfl,hp,hj,q⟩:=h
 cases ro
 obtain⟨t,rfl⟩:=ri
 obtain⟨its,n,r,ho,hz⟩:=I.lst hp
 obtain⟨h1,h2,h3,h4⟩:=Dh hj
 have hl:=r.length
 have hn:=sC
 have I':Inv X pins σ (upd H p (.lst (xs.set j v))) {s with heap:=s.heap.update p (Obj.mapSeq (·.setIfInBounds j u))}:=
  I.lstUpd hp ho (BJ its n j u) (r.set rv j) (by rw [List.length_set]; exact hz) s.toks
 by_cases h0:0≤k
 ·have hk:k.toNat=j:=by
   rw [seqIndex_of h0 h4] at h1
   exact Option.some.inj h1
  exact PySem.W.ki_setAt ho h0 (by omega) (by rw [List.size_toArray,←hl]; exact h4) (by rw [hk]; exact⟨_,I',q⟩)
 ·have hk:(k+(its.toArray.size:Int)).toNat=j:=by
   rw [seqIndex_neg (by omega) h3] at h1
   rw [List.size_toArray,←hl]
   exact Option.some.inj h1
  exact PySem.W.ki_setBack ho (by omega) (by rw [List.size_toArray,←hl]; exact h3) (by omega) (by rw [hk]; exact⟨_,I',q⟩)
theorem wl (lo hi:Option Int) (n:Nat):(sliceBounds lo hi none n).1=((HT.sIx n 0 lo:Nat):Int)∧(sliceBounds lo hi none n).2.1=((HT.sIx n n hi:Nat):Int)∧(sliceBounds lo hi none n).2.2=1:=by
 refine⟨?_,?_,rfl⟩
 ·cases lo with
  | none=>simp [sliceBounds,HT.sIx]
  | some i=>
   simp only [sliceBounds,HT.sIx,Option.getD_none,show(1:Int) > 0 by decide,if_true]
   by_cases h:i < 0
   ·simp only [h,if_true] <;> omega
   ·simp only [h,if_false] <;> omega
 ·cases hi with
  | none=>simp [sliceBounds,HT.sIx]
  | some i=>
   simp only [sliceBounds,HT.sIx,Option.getD_none,show(1:Int) > 0 by decide,if_true]
   by_cases h:i < 0
   ·simp only [h,if_true] <;> omega
   ·simp only [h,if_false] <;> omega
theorem ua (its:List Value) (lo hi:Option Int):slicePick its.toArray lo hi none=((its.drop (HT.sIx its.length 0 lo)).take (HT.sIx its.length its.length hi - HT.sIx its.length 0 lo)).toArray:=by
 obtain⟨h1,h2,h3⟩:=wl lo hi its.toArray.size
 unfold slicePick
 rw [h1,h2,h3]
 simp only [sliceRange_one,pick_run,List.size_toArray] <;> rfl
noncomputable def MA (K:PySem.W.Frag):V→Option Int→Option Int→Hp→VK→Prop:=fun x lo hi H Q=>∃a xs,x=.ref a∧SqL K H a xs∧∀p,H p=none→Q (.ref p) (upd H p (.lst (lV xs lo hi)))
theorem wm:SlR X (MA X.K):=by
 intro pins s σ H x v vl vu lo hi sl Q I rx hs pl pu h
 obtain⟨a,xs,rfl,hx,q⟩:=h
 cases rx
 obtain⟨its,r,ht,hz⟩:=I.list hx
 have hlen:=r.length
 refine⟨"list",_,slot_list_getitem.lookup,ht.isList.typeIs,?_⟩
 refine wpAny_getItem_list_slice ht.isList hs pl pu .none (by simp) ?_ (by rw [List.size_toArray] <;> omega)
 rw [ua,←hlen]
 refine⟨.ref s.heap.objs.size,_,I.laid (t':=s.toks) (o:=.lst (lV xs lo hi)) (fun b ob q=>Heap.get?_push_of_some _ q) (Nat.le_refl _) ?_,rfl,q _ (I.hok.fresh (Nat.le_refl _))⟩
 exact⟨Nat.le_trans (pZ xs lo hi) hz,_,0,(r.drop (HT.sIx xs.length 0 lo)).take (HT.sIx xs.length xs.length hi - HT.sIx xs.length 0 lo),Heap.get?_push_size _ rfl⟩
noncomputable def i8:V→Bool
 | .non=>true
 | .bl _=>true
 | .int _=>true
 | .str _=>true
 | _=>false
noncomputable def eqV:V→V→Bool
 | .non,.non=>true
 | .bl a,.bl b=>a == b
 | .bl a,.int b=>(if a then 1 else 0) == b
 | .int a,.bl b=>a == (if b then 1 else 0)
 | .int a,.int b=>a == b
 | .str a,.str b=>a == b
 | _,_=>false
theorem KA {A:Around} {s:Shared} {y x:V} {u v:Value} (ry:RelV y u) (rx:RelV x v) (fy:i8 y=true) (fx:i8 x=true):SeqAt.EqAt A s u v (eqV y x):=by
 cases y with
 | non=>
  cases ry
  cases x with
  | non=>cases rx; exact SeqAt.EqAt.same _
  | bl b=>cases rx; exact SeqAt.EqAt.none_bool b
  | int b=>obtain⟨t,rfl⟩:=rx; exact SeqAt.EqAt.none_int b t
  | str b=>obtain⟨t,rfl⟩:=rx; exact SeqAt.EqAt.none_str b t
  | _=>exact absurd (show false=true from fx) Bool.false_ne_true
 | bl a=>
  cases ry
  cases x with
  | non=>cases rx; exact SeqAt.EqAt.bool_none a
  | bl b=>cases rx; exact SeqAt.EqAt.bool_bool a b
  | int b=>obtain⟨t,rfl⟩:=rx; exact SeqAt.EqAt.bool_int a b t
  | str b=>obtain⟨t,rfl⟩:=rx; exact SeqAt.EqAt.bool_str a b t
  | _=>exact absurd (show false=true from fx) Bool.false_ne_true
 | int a=>
  obtain⟨t',rfl⟩:=ry
  cases x with
  | non=>cases rx; exact SeqAt.EqAt.int_none a t'
  | bl b=>cases rx; exact SeqAt.EqAt.int_bool a t' b
  | int b=>obtain⟨t,rfl⟩:=rx; exact SeqAt.EqAt.int_int a t' b t
  | str b=>obtain⟨t,rfl⟩:=rx; exact SeqAt.EqAt.int_str a t' b t
  | _=>exact absurd (show false=true from fx) Bool.false_ne_true
 | str a=>
  obtain⟨t',rfl⟩:=ry
  cases x with
  | non=>cases rx; exact SeqAt.EqAt.str_none a t'
  | bl b=>cases rx; exact SeqAt.EqAt.str_bool a t' b
  | int b=>obtain⟨t,rfl⟩:=rx; exact SeqAt.EqAt.str_int a t' b t
  | str b=>obtain⟨t,rfl⟩:=rx; exact SeqAt.EqAt.str_str a t' b t
  | _=>exact absurd (show false=true from fx) Bool.false_ne_true
 | _=>exact absurd (show false=true from fy) Bool.false_ne_true
noncomputable def eqU (x:V) (u:Value):Bool:=match u with
 | .none=>eqV .non x
 | .bool b=>eqV (.bl b) x
 | .int i _=>eqV (.int i) x
 | .str z _=>eqV (.str z) x
 | _=>false
theorem xk {x y:V} {u:Value} (r:RelV y u) (f:i8 y=true):eqU x u=eqV y x:=by
 cases y with
 | non=>cases r; rfl
 | bl b=>cases r; rfl
 | int i=>obtain⟨t,rfl⟩:=r; rfl
 | str z=>obtain⟨t,rfl⟩:=r; rfl
 | _=>exact absurd (show false=true from f) Bool.false_ne_true
theorem xJ {x:V}:∀{xs:List V} {us:List Value},Vals xs us→xs.all i8=true→us.any (eqU x)=xs.any fun y=>eqV y x
 | _,_,.nil,_=>rfl
 | y::xs,u::us,.cons r t,f=>by
  rw [List.all_cons,Bool.and_eq_true] at f
  rw [List.any_cons,List.any_cons,xk r f.1,xJ t f.2]
theorem nH {A:Around} {s:Shared} {x:V} {v:Value} (rx:RelV x v) (fx:i8 x=true):∀{xs:List V} {us:List Value},Vals xs us→xs.all i8=true→∀u∈us,SeqAt.EqAt A s u v (eqU x u)
 | _,_,.nil,_=>fun u hu=>by cases hu
 | y::xs,u::us,.cons r t,f=>fun u' hu=>by
  rw [List.all_cons,Bool.and_eq_true] at f
  rcases List.mem_cons.mp hu with rfl | hu
  ·rw [xk r f.1]; exact KA r rx f.1 fx
  ·exact nH rx fx t f.2 u' hu
noncomputable def inV (x:V) (xs:List V):Bool:=xs.any fun y=>eqV y x
noncomputable def rIn (K:PySem.W.Frag) (neg:Bool):R2:=fun x y H Q=>∃p xs,y=.ref p∧(SqL K H p xs∨SqT K H p xs)∧i8 x=true∧xs.all i8=true∧Q (.bl (if neg then !inV x xs else inV x xs)) H
theorem Ej:OpR X (compareOp .In) (rIn X.K false):=by
 intro pins s σ H x y v u Q I rx ry h
 obtain⟨p,xs,rfl,hq,fx,fs,q⟩:=h
 cases ry
 rcases hq with hq | hq
 ·obtain⟨its,r,pl,hz⟩:=I.list hq
  refine SeqAt.in_listAt (eqU x) pl.isList (fun w hw=>nH rx fx r fs w (by simpa using hw)) ⟨.bl _,H,I,rfl,?_⟩
  rw [show its.toArray.any (eqU x)=its.any (eqU x) by simp,xJ r fs]
  exact q
 ·obtain⟨its,r,pl,hz⟩:=I.tuple hq
  refine SeqAt.in_tupleAt (eqU x) pl (fun w hw=>nH rx fx r fs w (by simpa using hw)) ⟨.bl _,H,I,rfl,?_⟩
  rw [show its.toArray.any (eqU x)=its.any (eqU x) by simp,xJ r fs]
  exact q
theorem xz:gn X (.builtin "len") (fun xs H Q=>∃p ys,xs=[.ref p]∧(SqL X.K H p ys∨SqT X.K H p ys)∧Q (.int ys.length) H):=by
 intro pins s σ H xs us Q I r h
 obtain⟨p,ys,rfl,hq,q⟩:=h
 obtain⟨u,rfl,rx⟩:=FA r
 cases rx
 have hn:=sC
 rcases hq with hq | hq
 ·obtain⟨its,r',pl,hz⟩:=I.list hq
  have hlen:=r'.length
  exact Calls.call_len_list pl.isList (by simp only [List.size_toArray] <;> omega) ⟨.int ys.length,H,I.tok _,⟨s.toks+1,by rw [List.size_toArray,hlen]⟩,q⟩
 ·obtain⟨its,r',pl,hz⟩:=I.tuple hq
  have hlen:=r'.length
  exact len_tuple pl (by simp only [List.size_toArray] <;> omega) ⟨.int ys.length,H,I.tok _,⟨s.toks+1,by rw [List.size_toArray,hlen]⟩,q⟩
theorem uM:gn X (.type "tuple") (fun xs H Q=>∃p ys,xs=[.ref p]∧((SqL X.K H p ys∧∀l,H l=none→Q (.ref l) (upd H l (.tup ys)))∨(SqT X.K H p ys∧Q (.ref p) H))):=by
 intro pins s σ H xs us Q I r h
 obtain⟨p,ys,rfl,h⟩:=h
 obtain⟨u,rfl,rx⟩:=FA r
 cases rx
 rcases h with⟨hq,q⟩ | ⟨hq,q⟩
 ·obtain⟨its,r',pl,hz⟩:=I.list hq
  have hlen:=r'.length
  refine call_tuple_list pl.isList (fun h' kp=>?_) (by simp only [List.size_toArray] <;> omega)
  have I1:Inv X pins σ H {s with heap:=h'}:=I.kept (t':=s.toks) kp
  have I2:Inv X pins σ (upd H h'.objs.size (.tup ys)) {s with heap:=h'.push {cls:=.type "tuple",data:=.seq its.toArray}}:=
   I1.laid (t':=s.toks) (fun b o e=>Heap.get?_push_of_some _ e) (Nat.le_refl _) (show ObjOk X.prog X.w _ _ _ (.tup ys) from⟨hz,its,r',IsTup.new _ _⟩)
  exact⟨.ref h'.objs.size,_,I2,rfl,q _ (I1.hok.fresh (Nat.le_refl _))⟩
 ·obtain⟨its,r',pl,hz⟩:=I.tuple hq
  exact call_tuple_same pl ⟨.ref p,H,I,rfl,q⟩
noncomputable def tyV (K:PySem.W.Frag) (T:String) (x:V) (H:Hp):Prop:=match x with
 | .str _=>T="str"
 | .int _=>T="int"
 | .ref p=>(T="list"∧∃xs,SqL K H p xs)∨(T="tuple"∧∃o,K.lookup p=some o∧o.cls=.type "tuple"∧o.dict=none)∨
   (T="dict"∧((∃kvs,H p=some (.dK kvs))∨∃kvs,H p=some (.dT kvs)))∨(T="set"∧∃S n,H p=some (.set S n))
 | _=>False
theorem FC {pins:List (Addr×Obj)} {σ:St} {H:Hp} {s:Shared} {T:String} {x:V} {v:Value} (I:Inv X pins σ H s) (r:RelV x v) (ty:tyV X.K T x H):
  s.TypeIs v T∧∀a,v=.ref a→∃ob,s.heap.get? a=some ob∧ob.dict=none:=by
 cases x with
 | str z=>
  obtain⟨t,rfl⟩:=r
  cases (show T="str" from ty)
  exact⟨typeIs_str s z t,fun _ e=>nomatch e⟩
 | int i=>
  obtain⟨t,rfl⟩:=r
  cases (show T="int" from ty)
  exact⟨typeIs_int s i t,fun _ e=>nomatch e⟩
 | ref p=>
  cases r
  rcases ty with⟨rfl,xs,hq⟩ | ⟨rfl,o,hk,hc,hd⟩ | ⟨rfl,hk⟩ | ⟨rfl,S,n,hk⟩
  ·obtain⟨its,_,pl,_⟩:=I.list hq
   refine⟨pl.isList.typeIs,fun a e=>?_⟩
   cases e
   obtain⟨o,n,e,c,hd,_⟩:=pl
   exact⟨o,e,hd⟩
  ·refine⟨⟨o,I.kIn p o hk,hc⟩,fun a e=>?_⟩
   cases e
   exact⟨o,I.kIn _ o hk,hd⟩
  ·have z:∃o,s.heap.get? p=some o∧o.ExactDict:=by
    rcases hk with⟨kvs,hk⟩ | ⟨kvs,hk⟩
    ·obtain⟨_,_,_,_,o,_,_,e,ex,_⟩:=I.hok p _ hk
     exact⟨o,e,ex⟩
    ·obtain⟨_,_,_,_,o,_,_,e,ex,_⟩:=I.hok p _ hk
     exact⟨o,e,ex⟩
   obtain⟨o,e,ex⟩:=z
   refine⟨⟨o,e,ex.1⟩,fun a e2=>?_⟩
   cases e2
   exact⟨o,e,ex.2.1⟩
  ·obtain⟨o,_,_,_,e,ex,_⟩:=I.hok p _ hk
   refine⟨⟨o,e,ex.1⟩,fun a e2=>?_⟩
   cases e2
   exact⟨o,e,ex.2.1⟩
 | _=>exact False.elim ty
noncomputable def Mq (K:PySem.W.Frag) (T:String) (r:V→List V→Hp→VK→Prop) (to:TE):TE:=fun σ H Q=>to σ H fun x H1=>tyV K T x H1∧r x [] H1 Q
noncomputable def tBM (K:PySem.W.Frag) (T:String) (r:V→List V→Hp→VK→Prop) (to:TE) (t:TA):TE:=fun σ H Q=>to σ H fun x H1=>tyV K T x H1∧t σ H1 fun xs H2=>r x xs H2 Q
variable {o e:Expr} {es:List Expr} {to:TE} {t:TA} {name:Str} {apos cpos:Pos} {T id:String} {r:V→List V→Hp→VK→Prop}
theorem Bp (pa:PlainAttrs T) (slot:Slot T name id) (hty:typeOf (.builtin id)=pure (.type "method_descriptor")) (hm:MtR X id r) (ho:PE X o to)
  (hbase:attributeBase o name X.env (eval o X.env)=eval o X.env:=by rfl) (hline:(apos.endLine == cpos.line)=true:=by rfl):PE X (.Call (.Attribute o name apos) [] [] cpos) (Mq X.K T r to):=by
 intro pins s σ H Q I h
 refine wpAny_Call_method0_late hbase hline (thn (ho pins s σ H _ I h) fun v s1 ⟨x,H1,I1,r1,ty,q1⟩=>?_)
 obtain⟨h1,h2⟩:=FC I1 r1 ty
 exact⟨T,id,pa,slot,hty,h1,h2,Calls.callWith_builtin rfl (PySem.evalArgs_none (hm pins s1 σ H1 x [] v [] Q I1 r1 .nil q1))⟩
theorem d9 (pa:PlainAttrs T) (slot:Slot T name id) (hty:typeOf (.builtin id)=pure (.type "method_descriptor")) (hm:MtR X id r) (ho:PE X o to) (ha:PA X (e::es) t)
  (hbase:attributeBase o name X.env (eval o X.env)=eval o X.env:=by rfl)
  (hfew:((backTo cpos (starEach (e::es) X.env)).all (fun x=>!x.1) && (backToKw cpos (keywordEach [] X.env)).all (fun x=>x.1.isSome)
   && decide ((e::es).length+([]:List Keyword).length+(if ([]:List Keyword).isEmpty then 0 else 1) < 30))=true:=by rfl)
  (hline:(apos.endLine == cpos.line)=true:=by rfl) (hs:starEach (e::es) X.env=(false,eval e X.env)::starEach es X.env:=by rfl) (hplain:(backTo cpos (starEach es X.env)).any (·.1)=false:=by rfl):
  PE X (.Call (.Attribute o name apos) (e::es) [] cpos) (tBM X.K T r to t):=by
 intro pins s σ H Q I h
 refine wpAny_Call_method_late hbase hfew hline rfl (thn (ho pins s σ H _ I h) fun v s1 ⟨x,H1,I1,r1,ty,q1⟩=>?_)
 obtain⟨h1,h2⟩:=FC I1 r1 ty
 refine⟨T,id,pa,slot,hty,h1,h2,?_⟩
 have hA:=ha cpos pins s1 σ H1 _ I1 q1
 rw [hs] at hA⊢
 refine Calls.callWith_builtin (by show(false || (backTo cpos (starEach es X.env)).any (·.1))=false; rw [hplain] <;> rfl) (Calls.evalArgs_plain ?_)
 exact thn hA fun us s2 ⟨vs,H2,I2,r2,q2⟩=>hm pins s2 σ H2 x vs v us Q I2 r1 r2 q2
end
end L2
namespace L2
open PySem PySem.Spec PyProof.Rows
noncomputable def MtM (X:Cx) (id:String) (r:V→List V→Hp→VK→Prop):Prop:=
 ∀(pins:List (Addr×Obj)) (s:Shared) (σ:St) (H:Hp) (x:V) (xs:List V) (v:Value) (us:List Value) (Q:VK),Inv X pins σ H s→RelV x v→Vals xs us→r x xs H Q→
  wpAny (model X.prog X.w) X.A (call (.builtin id) (v::us)) (EP X pins σ Q) X.xe s
theorem Vals.one:∀{x:V} {us:List Value},Vals [x] us→∃u,us=[u]∧RelV x u
 | _,_,.cons r .nil=>⟨_,rfl,r⟩
theorem Vals.zero:∀{us:List Value},Vals [] us→us=[]
 | _,.nil=>rfl
theorem Vals.dropLast {xs:List V} {us:List Value} (h:Vals xs us):Vals xs.dropLast us.dropLast:=by
 induction h with
 | nil=>exact .nil
 | cons r t ih=>
  cases t with
  | nil=>exact .nil
  | cons q t'=>exact .cons r ih
theorem Vals.rep {xs:List V} {us:List Value} (h:Vals xs us):∀k:Nat,Vals (List.replicate k xs).flatten (List.replicate k us).flatten
 | 0=>.nil
 | k+1=>by
  rw [List.replicate_succ,List.replicate_succ,List.flatten_cons,List.flatten_cons]
  exact Vals.append h (Vals.rep h k)
theorem B1 {α:Type} (l:List α):l.eraseIdx (l.length - 1)=l.dropLast:=by
 induction l with
 | nil=>rfl
 | cons a r ih=>
  cases r with
  | nil=>rfl
  | cons b r=>
   have e:(a::b::r).length - 1=((b::r).length - 1)+1:=by
    have h1:(a::b::r).length=r.length+2:=rfl
    have h2:(b::r).length=r.length+1:=rfl
    omega
   rw [e,List.eraseIdx_cons_succ,ih]
   all_goals rfl
theorem vC (its:List Value):∀(k:Nat) (acc:List Value),
  List.foldl (fun x1 x2=>x1++x2) acc.toArray (List.replicate k its.toArray)=(acc++(List.replicate k its).flatten).toArray
 | 0,acc=>by simp
 | k+1,acc=>by
  have e:acc.toArray++its.toArray=(acc++its).toArray:=by simp
  have e2:(acc++its)++(List.replicate k its).flatten=acc++(List.replicate (k+1) its).flatten:=by
   rw [List.replicate_succ,List.flatten_cons,List.append_assoc]
  rw [←e2,←vC its k (acc++its),←e,List.replicate_succ,List.foldl_cons]
section
variable {X:Cx} {pins:List (Addr×Obj)} {σ:St} {H:Hp} {s:Shared} {l b:Addr} {xs ys zs:List V}
theorem Inv.lset {its its':List Value} {n:Nat} {f:Array Value→Array Value} {t':Nat} (I:Inv X pins σ H s) (hH:H l=some (.lst xs))
  (e:s.heap.get? l=some {cls:=.type "list",data:=.seq its.toArray n}) (hf:f its.toArray=its'.toArray) (hv:Vals ys its') (hz:ys.length≤sizeLine):
  Inv X pins σ (upd H l (.lst ys)) {s with heap:=s.heap.update l (Obj.mapSeq f),toks:=t'}:=by
 have q:=PySem.IsL.update e f
 rw [hf] at q
 refine I.write (x:=l) (e:=l) (by rw [hH]; exact trivial) (.inl rfl) (fun b' u hb hu=>(Heap.get?_update_other s.heap (Obj.mapSeq f) (Ne.symm hb)).trans hu) ⟨_,q⟩ ?_
 exact⟨hz,its',_,hv,q⟩
theorem Inv.lnew {its:List Value} {t':Nat} (I:Inv X pins σ H s) (hv:Vals ys its) (hz:ys.length≤sizeLine):
  Inv X pins σ (upd H s.heap.objs.size (.lst ys)) {s with heap:=s.heap.push {cls:=.type "list",data:=.seq its.toArray},toks:=t'}:=
 I.laid (fun _ _ q=>Heap.get?_push_of_some _ q) (Nat.le_refl _) ⟨hz,its,0,hv,Heap.get?_push_size _ rfl⟩
theorem Inv.fresh (I:Inv X pins σ H s):H s.heap.objs.size=none:=I.hok.fresh (Nat.le_refl _)
theorem Inv.lstM (I:Inv X pins σ H s) (hH:H l=some (.lst xs)):xs.length≤sizeLine∧∃(its:List Value) (n:Nat),Vals xs its∧xs.length=its.length∧s.heap.get? l=some {cls:=.type "list",data:=.seq its.toArray n}:=by
 obtain⟨z,its,n,r,e⟩:=I.hok l _ hH
 exact⟨z,its,n,r,r.length,e⟩
theorem so {n:Nat} (h:n≤sizeLine):Builtin.List.listTooLong n=false:=by
 unfold Builtin.List.listTooLong
 exact decide_eq_false (by omega)
end
section
variable {X:Cx}
noncomputable def HQ:V→List V→Hp→VK→Prop:=fun x vs H Q=>∃l xs y,x=.ref l∧vs=[y]∧H l=some (.lst xs)∧xs.length < sizeLine∧Q .non (upd H l (.lst (xs++[y])))
theorem b9:MtM X "list.append" HQ:=by
 intro pins s σ H x vs v us Q I rx rv h
 obtain⟨l,xs,y,rfl,rfl,hH,hz,q⟩:=h
 cases rx
 obtain⟨u,rfl,ru⟩:=rv.one
 obtain⟨z,its,n,r,hl,e⟩:=I.lstM hH
 refine call_meets F.slot_list_append ⟨_,e,rfl⟩ F.entry_list_append (F.args_list_append_2 _ _) (PySem.list_append l its.toArray n u (by rw [List.size_toArray]; omega)) ⟨e,?_⟩
 refine⟨.non,_,I.lset (its':=its++[u]) hH e (by simp) (r.append (.cons ru .nil)) ?_,rfl,q⟩
 rw [List.length_append,List.length_singleton]
 omega
noncomputable def C0:V→List V→Hp→VK→Prop:=fun x vs H Q=>∃l b xs zs,x=.ref l∧vs=[.ref b]∧H l=some (.lst xs)∧H b=some (.lst zs)∧xs.length+zs.length≤sizeLine∧Q .non (upd H l (.lst (xs++zs)))
theorem lH:MtM X "list.extend" C0:=by
 intro pins s σ H x vs v us Q I rx rv h
 obtain⟨l,b,xs,zs,rfl,rfl,hH,hB,hz,q⟩:=h
 cases rx
 obtain⟨u,rfl,ru⟩:=rv.one
 cases ru
 obtain⟨z,its,n,r,hl,e⟩:=I.lstM hH
 obtain⟨z2,its2,n2,r2,hl2,e2⟩:=I.lstM hB
 have hsz:its.toArray.size+its2.toArray.size≤sizeLine:=by rw [List.size_toArray,List.size_toArray]; omega
 have hlong:¬(!its.toArray.isEmpty && Builtin.List.listTooLong (its.toArray.size+its2.toArray.size))=true:=by
  rw [so hsz,Bool.and_false]
  exact Bool.false_ne_true
 refine call_meets F.slot_list_extend ⟨_,e,rfl⟩ F.entry_list_extend (F.args_list_extend_2 _ _)
  (AutoSeq1.list_extend_list_list_0 l its.toArray n b its2.toArray n2 hlong (by rw [List.size_toArray]; omega) (by omega)) ⟨e,e2,?_⟩
 refine⟨.non,_,I.lset (its':=its++its2) hH e (by simp) (r.append r2) ?_,rfl,q⟩
 rw [List.length_append]
 omega
noncomputable def MC:V→List V→Hp→VK→Prop:=fun x vs H Q=>∃l xs y,x=.ref l∧vs=[]∧H l=some (.lst xs)∧xs[xs.length - 1]?= some y∧Q y (upd H l (.lst xs.dropLast))
theorem Ki:MtM X "list.pop" MC:=by
 intro pins s σ H x vs v us Q I rx rv h
 obtain⟨l,xs,y,rfl,rfl,hH,hy,q⟩:=h
 cases rx
 have hus:=rv.zero
 subst hus
 obtain⟨z,its,n,r,hl,e⟩:=I.lstM hH
 obtain⟨u,hu,ru⟩:=r.get hy
 have hy':its.toArray[its.toArray.size - 1]?= some u:=by
  show its.toArray[its.length - 1]?= some u
  rw [←Array.getElem?_toList,←hl]
  exact hu
 refine call_meets F.slot_list_pop ⟨_,e,rfl⟩ F.entry_list_pop (F.args_list_pop_1 _) (MeetsSeq.list_pop_last l its.toArray n u hy' (by rw [List.size_toArray]; omega)) ⟨e,?_⟩
 refine⟨y,_,I.lset (its':=its.dropLast) hH e ?_ r.dropLast ?_,ru,q⟩
 ·show its.toArray.eraseIdxIfInBounds (its.toArray.size - 1)=its.dropLast.toArray
  rw [List.size_toArray,List.eraseIdxIfInBounds_toArray,B1]
 ·rw [List.length_dropLast]
  omega
noncomputable def MF:R2:=fun x y H Q=>∃l b xs zs,x=.ref l∧y=.ref b∧H l=some (.lst xs)∧H b=some (.lst zs)∧xs.length+zs.length≤sizeLine∧∀p,H p=none→Q (.ref p) (upd H p (.lst (xs++zs)))
theorem jn:OpR X (binaryOp .Add) MF:=by
 intro pins s σ H x y v u Q I rx ry h
 obtain⟨l,b,xs,zs,rfl,rfl,hH,hB,hz,q⟩:=h
 cases rx
 cases ry
 obtain⟨z,its,n,r,hl,e⟩:=I.lstM hH
 obtain⟨z2,its2,n2,r2,hl2,e2⟩:=I.lstM hB
 refine PySem.P.add_list e e2 ?_ (by rw [List.size_toArray,List.size_toArray]; omega)
 have ea:its.toArray++its2.toArray=(its++its2).toArray:=by simp
 rw [ea]
 exact⟨.ref _,_,I.lnew (t':=s.toks) (r.append r2) (by rw [List.length_append]; omega),rfl,q _ I.fresh⟩
noncomputable def MB:R2:=fun x y H Q=>∃l k xs,x=.ref l∧y=.int k∧H l=some (.lst xs)∧-(2 ^ 63)≤k∧k < 2 ^ 63∧xs.length*k.toNat≤sizeLine∧
 ∀p,H p=none→Q (.ref p) (upd H p (.lst (List.replicate k.toNat xs).flatten))
theorem Iv {α:Type} (xs:List α) (k:Nat):(List.replicate k xs).flatten.length=k*xs.length:=by
 induction k with
 | zero=>simp
 | succ k ih=>rw [List.replicate_succ,List.flatten_cons,List.length_append,ih,Nat.succ_mul,Nat.add_comm]
theorem wC:OpR X (binaryOp .Mult) MB:=by
 intro pins s σ H x y v u Q I rx ry h
 obtain⟨l,k,xs,rfl,rfl,hH,h1,h2,hz,q⟩:=h
 cases rx
 obtain⟨t,rfl⟩:=ry
 obtain⟨z,its,n,r,hl,e⟩:=I.lstM hH
 have hlen:its.toArray.size*k.toNat≤sizeLine:=by rw [List.size_toArray,←hl]; exact hz
 have hcap:¬its.toArray.size*k.toNat > (2 ^ 63 - 1) / 8:=by
  have:(sizeLine:Nat)≤(2 ^ 63 - 1) / 8:=by decide
  omega
 have hfit:¬(!Builtin.List.listFitsIndex k)=true:=by
  rw [fitsIndex_both h1 h2]
  exact Bool.false_ne_true
 have hlong:¬Builtin.List.listTooLong (its.toArray.size*k.toNat)=true:=by
  rw [so hlen]
  exact Bool.false_ne_true
 have hnew:List.foldl (fun x1 x2=>x1++x2) #[] (List.replicate (if its.toArray.isEmpty=true then 0 else k.toNat) its.toArray)=(List.replicate k.toNat its).flatten.toArray:=by
  have f0:∀m:Nat,List.foldl (fun x1 x2=>x1++x2) #[] (List.replicate m its.toArray)=(List.replicate m its).flatten.toArray:=fun m=>by
   have:=vC its m []
   rw [List.nil_append] at this
   exact this
  rw [f0]
  cases its with
  | nil=>simp
  | cons a r'=>rw [if_neg (by simp)]
 refine wpAny_binaryOp_repeat_ref (T:="list") (U:="int") (by decide) ⟨_,e,rfl⟩ (fun s'=>typeIs_int s' k t) noFill_list_mul F.fills_int_mul F.slot_int_rmul repeat_list F.slot_int_index.lookup
  (call_meets F.slot_int_rmul (typeIs_int s k t) F.entry_int_rmul (F.args_int_rmul_2 _ _) (int___rmul___int_list k t l its.toArray n)
   ⟨e,rfl,⟨_,e,rfl⟩,call_meets F.slot_list_mul ⟨_,e,rfl⟩ F.entry_list_mul (F.args_list_mul_2 _ _) (AutoListH.list___mul___list_int_3 l its.toArray n k t hfit hcap hlong) ⟨e,?_⟩⟩)
 rw [hnew]
 exact⟨.ref _,_,I.lnew (t':=s.toks) (r.rep k.toNat) (by rw [Iv,Nat.mul_comm]; exact hz),rfl,q _ I.fresh⟩
end
section
variable {prog:Program} {w:World} {A:Around} {E:Value→Shared→Prop} {s:Shared}
set_option maxRecDepth 100000 in
end
end L2
namespace L2
open PySem PySem.Spec PyProof.Rows
theorem Vals.ints:∀{ns:List Int} {us:List Value},Vals (ns.map V.int) us→IntsAre us ns
 | [],us,h=>by
  rw [List.map_nil] at h
  cases h
  exact IntsAre.nil
 | n::ns,us,h=>by
  rw [List.map_cons] at h
  cases h with
  | cons r t=>
   obtain⟨k,rfl⟩:=r
   exact IntsAre.cons n k (Vals.ints t)
theorem Vals.bls:∀{bs:List Bool} {us:List Value},Vals (bs.map V.bl) us→us=bs.map Value.bool
 | [],us,h=>by
  rw [List.map_nil] at h
  cases h
  rfl
 | b::bs,us,h=>by
  rw [List.map_cons] at h
  cases h with
  | cons r t=>
   cases r
   rw [Vals.bls t,List.map_cons]
theorem Vals.ref1 {a:Addr} {us:List Value} (r:Vals [V.ref a] us):us=[Value.ref a]:=by
 cases r with
 | cons r t=>
  cases t
  cases r
  rfl
section
variable {prog:Program} {w:World} {A:Around} {E:Value→Shared→Prop} {s:Shared} {l:Addr} {its:List Value} {ns:List Int} {Q:Value→Shared→Prop}
theorem HF (hh:A.handled=none) (hl:s.heap.IsList l its.toArray) (hi:IntsAre its ns)
  (h:∀h' tk t',(∀b o,s.heap.get? b=some o→h'.get? b=some o)→Q (.int ns.sum t') {s with heap:=h',toks:=tk}):wpAny (model prog w) A (call (.builtin "sum") [.ref l]) Q E s:=by
 obtain⟨xs,e⟩:=hi.allInts.items
 have hn:numsOf (intItems xs).toList=ns:=by rw [←e]; exact hi.numsOf
 rw [nums_intItems] at hn
 rw [e] at hl
 refine PySem.sum_intListG hh hl fun h' tk t' hk=>?_
 have:=h h' tk t' hk
 rw [preSum_eq,List.take_of_length_le (by simp),hn]; exact this
theorem Iq (hh:A.handled=none) (hl:s.heap.IsList l its.toArray) (hi:IntsAre its ns) (hne:0 < ns.length)
  (h:∀h' tk M t',(∀b o,s.heap.get? b=some o→h'.get? b=some o)→M∈ns→(∀a,a∈ns→a≤M)→Q (.int M t') {s with heap:=h',toks:=tk}):wpAny (model prog w) A (call (.builtin "max") [.ref l]) Q E s:=by
 obtain⟨xs,e⟩:=hi.allInts.items
 have hn:numsOf (intItems xs).toList=ns:=by rw [←e]; exact hi.numsOf
 rw [nums_intItems] at hn
 subst hn
 rw [e] at hl
 have hsz:0 < xs.size:=by simpa using hne
 refine PySem.max_intList hh hl hsz fun v h' tk hv hk=>?_
 obtain⟨t,rfl⟩:=intItems_at hv
 obtain⟨h1,h2⟩:=argBest_gt (numAt xs) (xs.size - 1)
 refine h h' tk _ t hk ?_ fun a ha=>?_
 ·rw [numAt_eq]; exact PySem.getD_mem (by rw [List.length_map,Array.length_toList]; omega)
 ·obtain⟨j,hj,rfl⟩:=mem_getD ha
  rw [List.length_map,Array.length_toList] at hj
  rw [←numAt_eq]; exact h2 j (by omega)
theorem Im (hh:A.handled=none) (hl:s.heap.IsList l its.toArray) (hi:IntsAre its ns) (hne:0 < ns.length)
  (h:∀h' tk M t',(∀b o,s.heap.get? b=some o→h'.get? b=some o)→M∈ns→(∀a,a∈ns→M≤a)→Q (.int M t') {s with heap:=h',toks:=tk}):wpAny (model prog w) A (call (.builtin "min") [.ref l]) Q E s:=by
 obtain⟨xs,e⟩:=hi.allInts.items
 have hn:numsOf (intItems xs).toList=ns:=by rw [←e]; exact hi.numsOf
 rw [nums_intItems] at hn
 subst hn
 rw [e] at hl
 have hsz:0 < xs.size:=by simpa using hne
 refine PySem.min_intList hh hl hsz fun v h' tk hv hk=>?_
 obtain⟨t,rfl⟩:=intItems_at hv
 obtain⟨h1,h2⟩:=argBest_lt (numAt xs) (xs.size - 1)
 refine h h' tk _ t hk ?_ fun a ha=>?_
 ·rw [numAt_eq]; exact PySem.getD_mem (by rw [List.length_map,Array.length_toList]; omega)
 ·obtain⟨j,hj,rfl⟩:=mem_getD ha
  rw [List.length_map,Array.length_toList] at hj
  rw [←numAt_eq]; exact h2 j (by omega)
end
section
variable {X:Cx}
noncomputable def My (K:PySem.W.Frag):List V→Hp→VK→Prop:=fun vs H Q=>∃(a:Addr) (ns:List Int),vs=[V.ref a]∧SqL K H a (ns.map V.int)∧Q (.int ns.sum) H
noncomputable def ME (K:PySem.W.Frag):List V→Hp→VK→Prop:=fun vs H Q=>∃(a:Addr) (ns:List Int),vs=[V.ref a]∧SqL K H a (ns.map V.int)∧0 < ns.length∧∀m,m∈ns→(∀y,y∈ns→y≤m)→Q (.int m) H
noncomputable def MD (K:PySem.W.Frag):List V→Hp→VK→Prop:=fun vs H Q=>∃(a:Addr) (ns:List Int),vs=[V.ref a]∧SqL K H a (ns.map V.int)∧0 < ns.length∧∀m,m∈ns→(∀y,y∈ns→m≤y)→Q (.int m) H
theorem KF (hc:X.calm=true):gn X (.builtin "sum") (My X.K):=by
 intro pins s σ H vs us Q I r h
 obtain⟨a,ns,rfl,hs,q⟩:=h
 obtain⟨its,rv,hl,_⟩:=I.list hs
 rw [Vals.ref1 r]
 exact HF (I.ok.hd hc) hl.isList rv.ints fun h' tk t' hk=>⟨.int _,H,I.kept hk,⟨_,rfl⟩,q⟩
theorem KG (hc:X.calm=true):gn X (.builtin "max") (ME X.K):=by
 intro pins s σ H vs us Q I r h
 obtain⟨a,ns,rfl,hs,hne,q⟩:=h
 obtain⟨its,rv,hl,_⟩:=I.list hs
 rw [Vals.ref1 r]
 exact Iq (I.ok.hd hc) hl.isList rv.ints hne fun h' tk m t' hk h1 h2=>⟨.int _,H,I.kept hk,⟨_,rfl⟩,q m h1 h2⟩
theorem G0 (hc:X.calm=true):gn X (.builtin "min") (MD X.K):=by
 intro pins s σ H vs us Q I r h
 obtain⟨a,ns,rfl,hs,hne,q⟩:=h
 obtain⟨its,rv,hl,_⟩:=I.list hs
 rw [Vals.ref1 r]
 exact Im (I.ok.hd hc) hl.isList rv.ints hne fun h' tk m t' hk h1 h2=>⟨.int _,H,I.kept hk,⟨_,rfl⟩,q m h1 h2⟩
end
section
variable {X:Cx}
noncomputable def J3 (K:PySem.W.Frag):V→List V→Hp→VK→Prop:=fun x xs H Q=>∃(a:Addr) (ys:List V) (y:V) (j:Nat) (z:V),x=V.ref a∧xs=[y]∧SqL K H a ys∧i8 y=true∧ys.all i8=true∧ys[j]?= some z∧eqV z y=true∧
 (∀(m:Nat) (z':V),m < j→ys[m]?= some z'→eqV z' y=false)∧Q (.int (j:Nat)) H
theorem Dn {ys:List V} (f:ys.all i8=true) {j:Nat} {z:V} (h:ys[j]?= some z):i8 z=true:=List.all_eq_true.mp f z (List.mem_of_getElem? h)
theorem Gh:MtR X "list.index" (J3 X.K):=by
 intro pins s σ H x xs v us Q I rx rxs h
 obtain⟨a,ys,y,j,z,rfl,rfl,hs,fy,fys,hz,hzj,hno,q⟩:=h
 cases rx
 cases rxs with
 | cons ry rt=>
  rename_i uy ut
  cases rt
  obtain⟨its,rv,⟨⟨cls,dd,data,sl⟩,n,ho,hc,hdn,hd⟩,hlen⟩:=I.list hs
  simp only at hc hd
  subst hc hd
  obtain⟨u,hu,ru⟩:=rv.get hz
  obtain⟨hjl,hje⟩:=List.getElem?_eq_some_iff.mp hu
  have hvl:=rv.length
  have hj:j < its.toArray.size:=by simpa using hjl
  have hsl:=sizeLine_eq
  refine call_meets PySem.F.slot_list_index ⟨_,ho,rfl⟩ PySem.F.entry_list_index (PySem.F.args_list_index_2 _ _)
   (SeqAt.list_indexAt a its.toArray n dd sl uy (eqU y) j hj (by omega) ?_ ?_) ⟨ho,fun u' hu'=>nH ry fy rv fys u' (by simpa using hu'),?_⟩
  ·have e1:its.toArray[j]=u:=by simpa using hje
   rw [e1,xk ru (Dn fys hz)]
   exact hzj
  ·intro m hm hmj
   have hml:m < its.length:=by simpa using hm
   have hmy:m < ys.length:=by omega
   have hy':ys[m]?= some ys[m]:=List.getElem?_eq_getElem hmy
   obtain⟨u2,hu2,ru2⟩:=rv.get hy'
   obtain⟨_,hme⟩:=List.getElem?_eq_some_iff.mp hu2
   have e1:its.toArray[m]=u2:=by simpa using hme
   rw [e1,xk ru2 (Dn fys hy')]
   exact hno m _ hmj hy'
  ·exact⟨.int (j:Nat),H,I.tok _,⟨_,rfl⟩,q⟩
end
theorem zx {prog:Program} {w:World} {A:Around} {E:Value→Shared→Prop} {s:Shared} {l:Addr} {items:Array Value} {Q:Value→Shared→Prop} (hl:s.heap.IsList l items)
  (h:∀s₂:Shared,s₂={s with heap:=s.heap.push {cls:=.type "list_iterator",data:=.fields #[.ref l,.int 0 0]}}→
   (s₂.heap.IsListIter s.heap.objs.size l 0∧s₂.heap.IsList l items)→l≠s.heap.objs.size→Q (.ref s.heap.objs.size) s₂):wpAny (model prog w) A (pyIter (.ref l)) Q E s:=by
 have hlt:l < s.heap.objs.size:=by obtain⟨_,e,_⟩:=hl; exact Heap.lt_size e
 exact wpAny_pyIter_list hl (h _ rfl ⟨⟨_,Heap.get?_push_size _ rfl,rfl,rfl⟩,hl.push _⟩ (Nat.ne_of_lt hlt))
theorem pL {prog:Program} {w:World} {A:Around} {bs:List Bool} {its:List Value} (e:its=bs.map Value.bool):
  TruthOf prog w A (fun i v=>its.toArray[i]?= some v) (fun i=>bs.getD i false):=fun i v s Q E hv hq=>by
 have hv':its[i]?= some v:=by simpa using hv
 rw [e,List.getElem?_map] at hv'
 obtain⟨b,hb,rfl⟩:=Option.map_eq_some_iff.mp hv'
 have hg:bs.getD i false=b:=by rw [List.getD_eq_getElem?_getD,hb] <;> rfl
 have hq':Q (bs.getD i false) s:=hq
 rw [hg] at hq'
 exact wpAny_truthy_bool hq'
theorem vJ:∀bs:List Bool,(List.range bs.length).any (fun i=>bs.getD i false)=bs.any id
 | []=>rfl
 | b::bs=>by
  rw [List.length_cons,List.range_succ_eq_map,List.any_cons,List.any_map,List.any_cons,←vJ bs]
  all_goals rfl
theorem vK:∀bs:List Bool,(List.range bs.length).all (fun i=>bs.getD i false)=bs.all id
 | []=>rfl
 | b::bs=>by
  rw [List.length_cons,List.range_succ_eq_map,List.all_cons,List.all_map,List.all_cons,←vK bs]
  all_goals rfl
section
variable {X:Cx}
noncomputable def MG (K:PySem.W.Frag):List V→Hp→VK→Prop:=fun vs H Q=>∃(a:Addr) (bs:List Bool),vs=[V.ref a]∧SqL K H a (bs.map V.bl)∧Q (.bl (bs.any id)) H
noncomputable def MH (K:PySem.W.Frag):List V→Hp→VK→Prop:=fun vs H Q=>∃(a:Addr) (bs:List Bool),vs=[V.ref a]∧SqL K H a (bs.map V.bl)∧Q (.bl (bs.all id)) H
theorem KH (hc:X.calm=true):gn X (.builtin "any") (MG X.K):=by
 intro pins s σ H vs us Q I r h
 obtain⟨a,bs,rfl,hs,q⟩:=h
 obtain⟨its,rv,hl,_⟩:=I.list hs
 rw [Vals.ref1 r]
 have hb:=rv.bls
 refine call_any_walk (zx hl.isList fun s₂ e2 st hne=>?_)
 subst e2
 refine⟨_,_,_,_,_,_,_,rfl,Walks.list (A:=X.A.in1) (I.ok.hd hc) _ a hne its.toArray,st,pL hb,fun h' tk hk=>?_⟩
 refine⟨.bl _,H,I.kept fun b o eo=>hk b o (fun hmem=>?_) (Heap.get?_push_of_some _ eo),?_,q⟩
 ·rcases List.mem_cons.mp hmem with e1 | hmem
  ·exact absurd (e1▸Heap.lt_size eo) (Nat.lt_irrefl _)
  ·cases hmem
 ·show Value.bool _=Value.bool _
  rw [←vJ,hb,List.size_toArray,List.length_map]
theorem G1 (hc:X.calm=true):gn X (.builtin "all") (MH X.K):=by
 intro pins s σ H vs us Q I r h
 obtain⟨a,bs,rfl,hs,q⟩:=h
 obtain⟨its,rv,hl,_⟩:=I.list hs
 rw [Vals.ref1 r]
 have hb:=rv.bls
 refine call_all_walk (zx hl.isList fun s₂ e2 st hne=>?_)
 subst e2
 refine⟨_,_,_,_,_,_,_,rfl,Walks.list (A:=X.A.in1) (I.ok.hd hc) _ a hne its.toArray,st,pL hb,fun h' tk hk=>?_⟩
 refine⟨.bl _,H,I.kept fun b o eo=>hk b o (fun hmem=>?_) (Heap.get?_push_of_some _ eo),?_,q⟩
 ·rcases List.mem_cons.mp hmem with e1 | hmem
  ·exact absurd (e1▸Heap.lt_size eo) (Nat.lt_irrefl _)
  ·cases hmem
 ·show Value.bool _=Value.bool _
  rw [←vK,hb,List.size_toArray,List.length_map]
end
end L2
namespace L2
open PySem PySem.Spec PyProof.Rows
noncomputable abbrev Hm (h:Heap) (c:Addr) (v:Option Value):Prop:=h.IsCell c v
noncomputable def Mw (scope sc:Scope):Scope:=
 {scope with names:=scope.names.map fun (n,k)=>if (k == .free && sc.kind == .function && sc.names.lookup n == some .cell) then(n,.cell) else(n,k)}
noncomputable def bT (cells:List (Str×Addr)):List (Str×NameKind)→List (Str×Addr)→List (Str×Addr)
 | [],acc=>acc
 | (n,k)::r,acc=>if k == .free then bT cells r ((n,(cells.lookup n).getD 0)::acc) else bT cells r acc
theorem nV (env:Env) (f:Str×NameKind→List (Str×Addr)→Sem (ForInStep (List (Str×Addr))))
  (hf:∀n k c,f (n,k) c=if k == .free then(do let a←cellOf env n; pure (.yield ((n,a)::c))) else pure (.yield c)):
  ∀(names:List (Str×NameKind)) (acc:List (Str×Addr)),(∀y∈names,y.2=.free→∃c,env.cells.lookup y.1=some c)→forIn names acc f=pure (bT env.cells names acc)
 | [],acc,_=>by rw [List.forIn_nil]; rfl
 | (n,k)::r,acc,h=>by
  rw [List.forIn_cons,hf]
  have ih:=fun acc=>nV env f hf r acc fun y hy=>h y (List.mem_cons_of_mem _ hy)
  unfold bT
  by_cases hk:(k == NameKind.free)=true
  ·rw [if_pos hk,if_pos hk]
   obtain⟨c,hc⟩:=h (n,k) List.mem_cons_self (by simpa using hk)
   have e:cellOf env n=pure c:=by unfold cellOf; rw [hc]
   rw [e]
   have e2:(env.cells.lookup n).getD 0=c:=by rw [hc]; rfl
   rw [e2]
   exact ih _
  ·rw [if_neg hk,if_neg hk]
   exact ih _
theorem Cg {scope:Scope} {env:Env} (h:∀y∈scope.names,y.2=.free→∃c,env.cells.lookup y.1=some c):closureFor scope env=pure (bT env.cells scope.names []):=by
 simp only [closureFor]
 rw [nV env _ (fun n k c=>rfl) scope.names [] h]
 rfl
theorem mJ {α:Type}:∀{l:List (Str×α)} {n:Str} {c:α},(n,c)∈l→∃c',l.lookup n=some c'
 | (k,v)::r,n,c,h=>by
  rw [List.lookup_cons]
  cases hb:n == k with
  | true=>exact⟨_,rfl⟩
  | false=>
   rcases List.mem_cons.mp h with e | h
   ·cases e; simp at hb
   ·exact mJ h
theorem ir {cells:List (Str×Addr)}:∀{names:List (Str×NameKind)} {acc:List (Str×Addr)} {n:Str} {c:Addr},(n,c)∈bT cells names acc→(n,c)∈acc∨((n,.free)∈names∧c=(cells.lookup n).getD 0)
 | [],_,_,_,h=>.inl h
 | (m,k)::r,acc,n,c,h=>by
  unfold bT at h
  split at h
  ·rename_i hk
   have hk:k=.free:=by simpa using hk
   rcases ir h with h | ⟨h1,h2⟩
   ·rcases List.mem_cons.mp h with e | h
    ·cases e; exact .inr ⟨hk▸List.mem_cons_self,rfl⟩
    ·exact .inl h
   ·exact .inr ⟨List.mem_cons_of_mem _ h1,h2⟩
  ·rcases ir h with h | ⟨h1,h2⟩
   ·exact .inl h
   ·exact .inr ⟨List.mem_cons_of_mem _ h1,h2⟩
theorem kW {cells:List (Str×Addr)}:∀{names:List (Str×NameKind)} {acc:List (Str×Addr)} {p:Str×Addr},p∈acc→p∈bT cells names acc
 | [],_,_,h=>h
 | (m,k)::r,acc,p,h=>by
  unfold bT
  split
  ·exact kW (List.mem_cons_of_mem _ h)
  ·exact kW h
theorem kU {cells:List (Str×Addr)}:∀{names:List (Str×NameKind)} {acc:List (Str×Addr)} {n:Str},(n,.free)∈names→(n,(cells.lookup n).getD 0)∈bT cells names acc
 | (m,k)::r,acc,n,h=>by
  unfold bT
  rcases List.mem_cons.mp h with e | h
  ·cases e
   exact kW List.mem_cons_self
  ·split
   ·exact kU h
   ·exact kU h
theorem ja:∀{names:List (Str×NameKind)} {h:Heap} {acc:List (Str×Addr)} {x:Str} {c:Addr},(x,c)∈cellsFrom h.objs.size names acc→
  (x,c)∈acc∨((x,.cell)∈names∧h.objs.size≤c∧Hm (pushCells h names) c none)
 | [],_,_,_,_,h=>.inl h
 | (n,k)::r,h,acc,x,c,hm=>by
  unfold cellsFrom at hm
  unfold pushCells
  split at hm
  ·rename_i hk
   rw [if_pos hk]
   have hk:k=.cell:=by simpa using hk
   rw [←Heap.size_push h {cls:=.type "cell",data:=.cell none}] at hm
   rcases ja hm with hm | ⟨h1,h2,h3⟩
   ·rcases List.mem_cons.mp hm with e | hm
    ·cases e
     exact .inr ⟨hk▸List.mem_cons_self,Nat.le_refl _,_,pushCells_keeps r _ _ _ (Heap.get?_push_size _ rfl),rfl⟩
    ·exact .inl hm
   ·rw [Heap.size_push] at h2
    exact .inr ⟨List.mem_cons_of_mem _ h1,Nat.le_of_succ_le h2,h3⟩
  ·rename_i hk
   rw [if_neg hk]
   rcases ja hm with hm | ⟨h1,h2,h3⟩
   ·exact .inl hm
   ·exact .inr ⟨List.mem_cons_of_mem _ h1,h2,h3⟩
theorem lS:∀{names:List (Str×NameKind)} {n:Nat} {acc:List (Str×Addr)} {p:Str×Addr},p∈acc→p∈cellsFrom n names acc
 | [],_,_,_,h=>h
 | (m,k)::r,n,acc,p,h=>by
  unfold cellsFrom
  split
  ·exact lS (List.mem_cons_of_mem _ h)
  ·exact lS h
theorem pw:∀{names:List (Str×NameKind)} {n:Nat} {acc:List (Str×Addr)} {x:Str},(x,.cell)∈names→∃c,(x,c)∈cellsFrom n names acc
 | (m,k)::r,n,acc,x,h=>by
  unfold cellsFrom
  rcases List.mem_cons.mp h with e | h
  ·cases e
   exact⟨n,lS List.mem_cons_self⟩
  ·split
   ·exact pw h
   ·exact pw h
theorem pp:∀{names:List (Str×NameKind)} {h:Heap} {acc:List (Str×Addr)} {x y:Str} {c:Addr},(∀p∈acc,p.2 < h.objs.size)→(∀x y c,(x,c)∈acc→(y,c)∈acc→x=y)→
  (x,c)∈cellsFrom h.objs.size names acc→(y,c)∈cellsFrom h.objs.size names acc→x=y
 | [],_,_,_,_,_,_,hi,h1,h2=>hi _ _ _ h1 h2
 | (n,k)::r,h,acc,x,y,c,hl,hi,h1,h2=>by
  unfold cellsFrom at h1 h2
  split at h1
  ·rename_i hk
   rw [if_pos hk] at h2
   rw [←Heap.size_push h {cls:=.type "cell",data:=.cell none}] at h1 h2
   refine pp (h:=h.push _) (fun p hp=>?_) (fun x y c a b=>?_) h1 h2
   ·rw [Heap.size_push]
    rcases List.mem_cons.mp hp with rfl | hp
    ·exact Nat.lt_succ_self _
    ·exact Nat.lt_succ_of_lt (hl p hp)
   ·rcases List.mem_cons.mp a with e | a <;> rcases List.mem_cons.mp b with e' | b
    ·cases e; cases e'; rfl
    ·cases e; exact absurd (hl _ b) (Nat.lt_irrefl _)
    ·cases e'; exact absurd (hl _ a) (Nat.lt_irrefl _)
    ·exact hi _ _ _ a b
  ·rename_i hk
   rw [if_neg hk] at h2
   exact pp hl hi h1 h2
theorem zp {M:Model} {A:Around} {E:Value→Shared→Prop} {s:Shared} {scope:Scope} {globals:Addr} {closure:List (Str×Addr)} {qual:Str} {func:Option Addr} {code:Value} {around:Env} {builtins:Addr} {Q:Env→Shared→Prop}
  (h:Q (newEnv scope s.heap.objs.size globals (cellsFrom (s.heap.objs.size+1) scope.names closure) qual func code (some around) builtins)
   {s with heap:=pushCells (s.heap.push {cls:=.type "dict",data:=.dict #[]}) scope.names}):
  wpAny M A (newFunctionEnv scope globals closure [] qual func code (some around) builtins) Q E s:=by
 simp only [newFunctionEnv,Option.isSome_some,if_true]
 refine wpAny_bind (wpAny_alloc ?_)
 refine wpAny_bind (wpAny_layCells _ (fun n k c=>rfl) scope.names closure _ _ ?_)
 rw [show({s with heap:=s.heap.push {cls:=.type "dict",data:=.dict #[]}}:Shared).heap.objs.size=s.heap.objs.size+1 from Heap.size_push ..]
 rw [List.forIn_nil]
 exact wpAny_bind (wpAny_pure (wpAny_pure h))
theorem kx {sc:Scope}:∀{names:List (Str×NameKind)} {x:Str} {k:NameKind},
  (names.map fun (n,k)=>if (k == NameKind.free && sc.kind == .function && sc.names.lookup n == some .cell) then(n,NameKind.cell) else(n,k)).lookup x=some k→
  ∃k',names.lookup x=some k'∧(k=k'∨(k'=.free∧k=.cell))
 | [],_,_,h=>by simp at h
 | (n,k₀)::r,x,k,h=>by
  have ih:=@kx sc r x k
  have h':List.lookup x ((if (k₀ == NameKind.free && sc.kind == .function && sc.names.lookup n == some .cell)=true then(n,NameKind.cell) else(n,k₀))::(r.map _))=some k:=h
  cases hx:x == n with
  | true=>
   simp only [List.lookup_cons,hx]
   by_cases hc:(k₀ == NameKind.free && sc.kind == .function && sc.names.lookup n == some .cell)=true
   ·rw [if_pos hc] at h'
    simp only [List.lookup_cons,hx] at h'
    cases h'
    simp only [Bool.and_eq_true,beq_iff_eq] at hc
    exact⟨k₀,rfl,.inr ⟨hc.1.1,rfl⟩⟩
   ·rw [if_neg hc] at h'
    simp only [List.lookup_cons,hx] at h'
    cases h'
    exact⟨_,rfl,.inl rfl⟩
  | false=>
   simp only [List.lookup_cons,hx]
   by_cases hc:(k₀ == NameKind.free && sc.kind == .function && sc.names.lookup n == some .cell)=true
   ·rw [if_pos hc] at h'
    simp only [List.lookup_cons,hx] at h'
    exact ih h'
   ·rw [if_neg hc] at h'
    simp only [List.lookup_cons,hx] at h'
    exact ih h'
structure At (N:List Str) (sc scope:Scope) (own:List (Str×Nat)):Prop where
 kind:scope.kind=.function
 uniq:∀y∈scope.names,scope.names.lookup y.1=some y.2
 ix:∀p∈own,N[p.2]?= some p.1
 free:∀y∈scope.names,y.2=.free→sc.names.lookup y.1=some .cell∨sc.names.lookup y.1=some .free
 own:∀y∈scope.names,y.2=.local∨y.2=.cell→y.1∈own.map (·.1)∨y.1∉N
noncomputable def dY (σ:St):List Nat→St
 | []=>σ
 | v::vs=>(dY σ vs).set v none
theorem j6 (σ:St):∀vs:List Nat,(dY σ vs).length=σ.length
 | []=>rfl
 | v::vs=>by unfold dY; rw [List.length_set,j6 σ vs]
theorem oj {σ:St} {i:Nat} {x:V}:∀{vs:List Nat},(dY σ vs)[i]?= some (some x)→σ[i]?= some (some x)∧i∉vs
 | [],h=>⟨h,by simp⟩
 | v::vs,h=>by
  unfold dY at h
  by_cases hi:v=i
  ·subst hi
   by_cases hv:v < (dY σ vs).length
   ·rw [List.getElem?_set_self hv] at h; cases h
   ·rw [List.getElem?_eq_none (by simpa using hv)] at h; cases h
  ·rw [List.getElem?_set_ne hi] at h
   obtain⟨h1,h2⟩:=oj h
   exact⟨h1,by simp only [List.mem_cons,not_or]; exact⟨fun e=>hi e.symm,h2⟩⟩
noncomputable abbrev Cx.blk (X:Cx) (s:Shared) (H:Hp) (scope:Scope) (cenv:Env) (fp:List Addr):Cx:={X with s_0:=s,H_0:=H,env:=cenv,outer:=X.stack,ex:=fp,fn:=fun x=>scope.names.lookup x == some .cell,pn:=[],xe:=fun _ _=>False}
section
variable {X:Cx} {pins:List (Addr×Obj)} {σ:St} {H:Hp} {s:Shared}
theorem z9 {scope:Scope} {own:List (Str×Nat)} {fp:List Addr} (I:Inv X pins σ H s) (ok:At X.N X.env.scope scope own) (hN:X.N.Nodup) (hfp:∀b∈fp,qC X pins H b∧b < s.heap.objs.size):
  Inv (X.blk s H scope (compEnvC scope (cellsFrom (s.heap.objs.size+1) scope.names (bT X.env.cells scope.names [])) s.heap.objs.size X.env) fp) [] (dY σ (own.map (·.2))) H {s with heap:=pushCells (s.heap.push {cls:=.type "dict",data:=.dict #[]}) scope.names}:=by
 have hfree:∀y∈scope.names,y.2=.free→∃c,X.env.cells.lookup y.1=some c:=fun y hy e=>by
  rcases ok.free y hy e with k | k
  ·exact I.ok.has _ (.inl k)
  ·exact I.ok.has _ (.inr k)
 generalize hcenv:compEnvC scope (cellsFrom (s.heap.objs.size+1) scope.names (bT X.env.cells scope.names [])) s.heap.objs.size X.env=cenv
 have kp:∀b o,s.heap.get? b=some o→(pushCells (s.heap.push {cls:=.type "dict",data:=.dict #[]}) scope.names).get? b=some o:=fun b o e=>pushCells_keeps _ _ _ _ (Heap.get?_push_of_some _ e)
 have hL:cenv.locals=s.heap.objs.size:=by rw [←hcenv]; rfl
 have hcl:cenv.cells=cellsFrom (s.heap.objs.size+1) scope.names (bT X.env.cells scope.names []):=by rw [←hcenv]; rfl
 have hsc:cenv.scope=Mw scope X.env.scope:=by rw [←hcenv]; rfl
 rw [←Heap.size_push s.heap {cls:=.type "dict",data:=.dict #[]}] at hcl
 have cm:∀{y c},(y,c)∈bT X.env.cells scope.names []→X.env.cells.lookup y=some c∧c < s.heap.objs.size:=fun {y c} hm=>by
  rcases ir hm with hm | ⟨h1,rfl⟩
  ·cases hm
  ·obtain⟨c,hc⟩:=hfree _ h1 rfl
   rw [hc]
   obtain⟨w,z⟩:=I.cell _ _ hc
   exact⟨rfl,z.lt⟩
 have mem:∀{y c},cenv.cells.lookup y=some c→(X.env.cells.lookup y=some c∧c < s.heap.objs.size)∨(s.heap.objs.size+1≤c∧Hm (pushCells (s.heap.push {cls:=.type "dict",data:=.dict #[]}) scope.names) c none):=fun {y c} e=>by
  rw [hcl] at e
  rcases ja (PySem.mem_of_lookup e) with hm | ⟨_,h2,h3⟩
  ·exact .inl (cm hm)
  ·rw [Heap.size_push] at h2; exact .inr ⟨h2,h3⟩
 have look:∀{y},scope.names.lookup y=some .free→∃c,cenv.cells.lookup y=some c∧X.env.cells.lookup y=some c:=fun {y} hl=>by
  have hy:(y,NameKind.free)∈scope.names:=PySem.mem_of_lookup hl
  obtain⟨c',e'⟩:=mJ (lS (names:=scope.names) (n:=(s.heap.push {cls:=.type "dict",data:=.dict #[]}).objs.size) (kU (cells:=X.env.cells) (acc:=[]) hy))
  rw [←hcl] at e'
  refine⟨c',e',?_⟩
  rw [hcl] at e'
  rcases ja (PySem.mem_of_lookup e') with hm | ⟨h1,_,_⟩
  ·exact(cm hm).1
  ·have:=ok.uniq _ h1
   rw [hl] at this; cases this
 have okB:(X.blk s H scope cenv fp).Ok:=by
  refine⟨I.ok.mod,by show cenv.scope.kind=_; rw [hsc]; exact ok.kind,by show cenv.globals=_; rw [←hcenv]; exact I.ok.glob,by show cenv.builtins=_; rw [←hcenv]; exact I.ok.blt,by show s.heap.objs.size≤cenv.locals; rw [hL]; exact Nat.le_refl _,
   fun y z c e1 e2=>?_,fun y hy=>?_,fun y c z e=>?_,I.ok.hd,I.ok.frames,.inl rfl,fun b hb=>⟨?_,fun y c e z=>?_⟩,I.bs,Nat.le_trans I.ok.bsz I.sz,fun b o e hb=>?_,fun b hb z=>?_,I.stack,I.stkFree⟩
  ·have e1:cenv.cells.lookup y=some c:=e1
   have e2:cenv.cells.lookup z=some c:=e2
   rw [hcl] at e1 e2
   refine pp (fun p hp=>?_) (fun y z c a b=>I.ok.inj y z c (cm a).1 (cm b).1) (PySem.mem_of_lookup e1) (PySem.mem_of_lookup e2)
   rw [Heap.size_push]
   exact Nat.lt_succ_of_lt (cm (y:=p.1) (c:=p.2) hp).2
  ·show∃c,cenv.cells.lookup y=some c
   have key:∀k,cenv.kindOf y=some k→(k=.cell∨k=.free)→∃c,cenv.cells.lookup y=some c:=fun k hk hk'=>by
    unfold Env.kindOf at hk
    rw [hsc] at hk
    obtain⟨k',e,r⟩:=kx hk
    have:k'=.cell∨k'=.free:=by
     rcases r with rfl | ⟨rfl,_⟩
     ·exact hk'
     ·exact .inr rfl
    rcases this with rfl | rfl
    ·obtain⟨c,hm⟩:=pw (n:=(s.heap.push {cls:=.type "dict",data:=.dict #[]}).objs.size) (acc:=bT X.env.cells scope.names []) (PySem.mem_of_lookup e)
     obtain⟨c',e'⟩:=mJ hm
     exact⟨c',by rw [hcl]; exact e'⟩
    ·obtain⟨c,h1,_⟩:=look e
     exact⟨c,h1⟩
   rcases hy with hy | hy
   ·exact key _ hy (.inl rfl)
   ·exact key _ hy (.inr rfl)
  ·have z:(scope.names.lookup y == some NameKind.cell)=true:=z
   have z:scope.names.lookup y=some .cell:=by simpa using z
   have e:cenv.cells.lookup y=some c:=e
   rw [hcl] at e
   rcases ja (PySem.mem_of_lookup e) with hm | ⟨_,h2,_⟩
   ·rcases ir hm with hm | ⟨h1,_⟩
    ·cases hm
    ·have q:=ok.uniq _ h1
     rw [z] at q; cases q
   ·rw [Heap.size_push] at h2
    exact Nat.le_of_succ_le h2
  ·show b≠cenv.locals
   rw [hL]; exact Nat.ne_of_lt (hfp b hb).2
  ·have e:cenv.cells.lookup y=some c:=e
   rcases mem e with⟨h1,_⟩ | ⟨h1,_⟩
   ·exact(hfp b hb).1.2.2.2.2.1 y c h1 z
   ·have h2:s.heap.objs.size+1≤b:=by rw [←z]; exact h1
    exact absurd (Nat.lt_of_lt_of_le (hfp b hb).2 (Nat.le_of_succ_le h2)) (Nat.lt_irrefl _)
  ·rcases (hfp b hb).1.2.2.2.1 with z | z
   ·exact I.ok.noex b o e z
   ·exact absurd (Nat.lt_of_lt_of_le (Heap.lt_size e) (Nat.le_trans I.ok.bsz z)) (Nat.lt_irrefl _)
  ·rcases List.mem_cons.mp (I.stkSub b z) with z | z
   ·exact(hfp b hb).1.2.1 z
   ·exact(hfp b hb).1.2.2.1 z
 refine⟨okB,rfl,I.bare,Un.kept kp,⟨fun _=>none,?_,fun i y av e1 e2 e3=>?_⟩,fun y c e=>?_,?_,fun y c e=>?_,fun p hp=>?_,I.hok.kept kp,by rw [j6]; exact I.len⟩
 ·show Heap.Ns _ cenv.locals _
  rw [hL]
  exact Heap.Ns.keeps (Heap.Ns.new ..) fun b o e=>pushCells_keeps _ _ _ _ e
 ·obtain⟨e2,hne⟩:=oj e2
  have hfr:scope.names.lookup y=some .free∧(cenv.kindOf y=some .cell∨cenv.kindOf y=some .free):=by
   have key:∀k,cenv.scope.names.lookup y=some k→k=.local∨k=.cell∨k=.free→scope.names.lookup y=some .free∧(cenv.kindOf y=some .cell∨cenv.kindOf y=some .free):=fun k hk hk'=>by
    have hk0:=hk
    rw [hsc] at hk
    obtain⟨k',e,r⟩:=kx hk
    have no:¬(k'=.local∨k'=.cell):=fun hh=>by
     rcases ok.own _ (PySem.mem_of_lookup e) hh with e' | e'
     ·obtain⟨p,hp,hpy⟩:=List.mem_map.mp e'
      have e3:=ok.ix p hp
      have:p.1=y:=hpy
      rw [this] at e3
      exact hne (List.mem_map.mpr ⟨p,hp,sr hN e3 e1⟩)
     ·exact e' (List.mem_of_getElem? e1)
    rcases r with rfl | ⟨rfl,rfl⟩
    ·rcases hk' with rfl | rfl | rfl
     ·exact absurd (.inl rfl) no
     ·exact absurd (.inr rfl) no
     ·exact⟨e,.inr hk0⟩
    ·exact⟨e,.inl hk0⟩
   have e3:Vis cenv.scope y:=e3
   rcases e3 with e3 | e3 | e3
   ·exact key _ e3 (.inl rfl)
   ·exact key _ e3 (.inr (.inl rfl))
   ·exact key _ e3 (.inr (.inr rfl))
  obtain⟨m,hn,hl⟩:=I.loc
  have hvis:Vis X.env.scope y:=(ok.free _ (PySem.mem_of_lookup hfr.1) rfl).elim (fun k=>.inr (.inl k)) (fun k=>.inr (.inr k))
  obtain⟨w,r,q⟩:=hl i y av e1 e2 hvis
  refine⟨w,r,.inr ⟨hfr.2,?_⟩⟩
  obtain⟨c,h1,h2⟩:=look hfr.1
  rcases q with⟨k,_⟩ | ⟨_,c',e',z⟩
  ·have k:X.env.scope.names.lookup y=some .local:=k
   rcases ok.free _ (PySem.mem_of_lookup hfr.1) rfl with k' | k' <;> rw [show X.env.scope.names.lookup y=_ from k'] at k <;> cases k
  ·rw [h2] at e'; cases e'
   exact⟨c,h1,z.keeps kp⟩
 ·have e:cenv.cells.lookup y=some c:=e
  rcases mem e with⟨h1,_⟩ | ⟨_,z⟩
  ·obtain⟨w,z⟩:=I.cell y c h1
   exact⟨w,z.keeps kp⟩
  ·exact⟨_,z⟩
 ·show H cenv.locals=none
  rw [hL]; exact I.hok.fresh (Nat.le_refl _)
 ·have e:cenv.cells.lookup y=some c:=e
  rcases mem e with⟨h1,_⟩ | ⟨h1,_⟩
  ·exact I.freeC y c h1
  ·exact I.hok.fresh (Nat.le_of_succ_le h1)
 ·exact absurd (show p∈([]:List (Addr×Obj))++[] from hp) (by simp)
theorem KJ {E:Value→Shared→Prop} {D:Addr} {xs:List V} {y:V} {v:Value} {Q:Value→Shared→Prop} (I:Inv X pins σ H s) (hD:H D=some (.lst xs)) (hz:xs.length < sizeLine) (r:RelV y v)
  (h:∀s',Inv X pins σ (upd H D (.lst (xs++[y]))) s'→Q .none s'):wpAny (model X.prog X.w) X.A (call (.builtin "list.append") [.ref D,v]) Q E s:=by
 obtain⟨hz',its,n,ri,e⟩:=I.hok D _ hD
 have hl:=ri.length
 refine append_at (hsz:=by rw [List.size_toArray]; omega) e fun h' sb ho'=>?_
 refine h {s with heap:=h'} (I.write (t':=s.toks) (by rw [hD]; trivial) (.inl rfl) (fun b u hb q=>(sb.2 b hb).trans q) ⟨_,ho'⟩ ⟨by rw [List.length_append]; exact hz,its++[v],n+1,ri.append (.cons r .nil),?_⟩)
 rw [ho']
 simp
noncomputable def PTs (X:Cx) (ifs:List Expr) (t:TT):Prop:=
 ∀(pins:List (Addr×Obj)) (s:Shared) (σ:St) (H:Hp) (Q:Bool→Hp→Prop),Inv X pins σ H s→t σ H Q→
  wpAny (model X.prog X.w) X.A (forIn ifs true fun c r=>if r=true then do let ok←isTrue c X.env (eval c X.env); pure (ForInStep.yield ok) else pure (ForInStep.yield r)) (TP X pins σ Q) X.xe s
noncomputable def Mh:TT:=fun _ H Q=>Q true H
theorem cn:PTs X [] Mh:=fun _ _ _ H _ I h=>wpAny_tests_nil ⟨H,I,h⟩
theorem C1 {c:Expr} {t:TT} (h:PT X c t):PTs X [c] t:=fun pins s σ H Q I hw=>wpAny_tests_one (h pins s σ H Q I hw)
end
theorem DX {α:Type} {t:Sem α} {Q Q':α→Shared→Prop} {M:Model} {A:Around} {E:Value→Shared→Prop} {s:Shared} (h:wpAny M A t Q (fun _ _=>False) s) (hQ:∀a s,Q a s→Q' a s):wpAny M A t Q' E s:=wpAny_mono h hQ fun _ _ z=>False.elim z
theorem xy {prog:Program} {w:World} {A:Around} {R:Result→Shared→Prop} {s:Shared} {elt target iter:Expr} {ifs:List Expr} {scope:Scope} {pos:Pos} {it acc:Value} {env:Env} (I:Nat→Shared→Prop)
  (turn:∀n s,I n s→wpAny (model prog w) A (pyNext it) (fun r s₁=>match r with
   | none=>R (.ok .next) s₁
   | some v=>wpAny (model prog w) A (letOwnedTupleGo target it v) (fun _ s₁'=>wpAny (model prog w) A (assign target env v) (fun _ s₂=>
     wpAny (model prog w) A (forIn ifs true fun c r=>if r=true then do let ok←isTrue c env (eval c env); pure (ForInStep.yield ok) else pure (ForInStep.yield r)) (fun ok s₃=>
      if ok=true then wpAny (model prog w) A (eval elt env) (fun x s₄=>
       wpAny (model prog w) A (call (.builtin "list.append") [acc,x]) (fun _ s₅=>∃m,m < n∧I m s₅) (notedBy (model prog w) A env fun e s'=>R (.error e) s') s₄) (notedBy (model prog w) A env fun e s'=>R (.error e) s') s₃
      else∃m,m < n∧I m s₃) (notedBy (model prog w) A env fun e s'=>R (.error e) s') s₂) (notedBy (model prog w) A env fun e s'=>R (.error e) s') s₁') (notedBy (model prog w) A env fun e s'=>R (.error e) s') s₁) (notedBy (model prog w) A env fun e s'=>R (.error e) s') s)
  (n:Nat) (h:I n s):
  codeAny (model prog w) A (.compLoop (.ListComp elt [⟨target,iter,ifs,0⟩] scope pos) 0 it acc env) R s:=by
 refine codeAny_loop rfl I (fun n s hI=>?_) n h
 show wpAny _ A ((compTurn (.ListComp elt [⟨target,iter,ifs,0⟩] scope pos) 0 it acc env).onRaise (fun x=>do noteFrame x env; theTreesLotGoes x)) _ _ s
 refine wpAny_noted ?_
 rw [compTurn_list]
 refine wpAny_bind (wpAny_standAt (wpAny_bind (wpAny_mono (turn n s hI) (fun r s₁ h₁=>?_) fun _ _ h'=>h')))
 cases r with
 | none=>exact wpAny_pure h₁
 | some v=>
  refine wpAny_bind (wpAny_mono h₁ (fun _ s₁' h₁'=>?_) fun _ _ h'=>h')
  refine wpAny_bind (wpAny_mono h₁' (fun _ s₂ h₂=>wpAny_bind (wpAny_mono h₂ (fun ok s₃ h₃=>?_) fun _ _ h'=>h')) fun _ _ h'=>h')
  cases ok with
  | false=>exact wpAny_pure ⟨rfl,h₃⟩
  | true=>
   exact wpAny_bind (wpAny_bind (wpAny_mono h₃ (fun x s₄ h₄=>wpAny_bind (wpAny_mono h₄ (fun _ s₅ h₅=>wpAny_pure (wpAny_pure ⟨rfl,h₅⟩)) fun _ _ h'=>h')) fun _ _ h'=>h'))
section
variable {X:Cx}
noncomputable def tLc (wi:TI) (g:TG) (tt:TT) (te:TE) (vs:List Nat):TE:=fun σ H Q=>wi σ H fun J H1=>∀D,H1 D=none→∃W:Nat→Nat→Hp→Prop,(∃m,W 0 m (upd H1 D (.lst [])))∧∀i m H,W i m H→
 (J.stop i H∧Q (.ref D) H)∨(J.go i H∧∃Nx:Hp→Prop,(∀H',Nx H'→∃m',m' < m∧W (i+1) m' H')∧∀x H',J.yld i H x H'→g x (dY σ vs) H' fun σ2 H2=>dY σ2 vs=dY σ vs∧tt σ2 H2 fun b H3=>
  if b=true then te σ2 H3 fun y H4=>∃acc,H4 D=some (.lst acc)∧acc.length < sizeLine∧Nx (upd H4 D (.lst (acc++[y]))) else Nx H3)
theorem Df {pins:List (Addr×Obj)} {s:Shared} {σ:St} {H:Hp} {Q:VK} {elt tg iter:Expr} {ifs:List Expr} {scope:Scope} {own:List (Str×Nat)} {pos pos':Pos} {wi:TI} {g:TG} {tt:TT} {te:TE} {use:Option (Value→Sem Unit)} {Qf:Value→Shared→Prop}
  (hc:X.calm=true) (hN:X.N.Nodup) (I:Inv X pins σ H s) (hi:PI X tg iter wi) (ok:At X.N X.env.scope scope own)
  (hg:∀(s:Shared) (H:Hp) (C:Addr) (cl:List (Str×Addr)) (fp:List Addr),PG (X.blk s H scope (compEnvC scope cl C X.env) fp) tg g) (ht:∀(s:Shared) (H:Hp) (C:Addr) (cl:List (Str×Addr)) (fp:List Addr),PTs (X.blk s H scope (compEnvC scope cl C X.env) fp) ifs tt)
  (he:∀(s:Shared) (H:Hp) (C:Addr) (cl:List (Str×Addr)) (fp:List Addr),PE (X.blk s H scope (compEnvC scope cl C X.env) fp) elt te) (hs:∀x,foldedSetIterable iter X.env x=pure x)
  (h:tLc wi g tt te (own.map (·.2)) σ H Q)
  (hRR:∀D C s' m H',Inv X pins σ H' s'→Q (.ref D) H'→s'.heap.Ns C m→qC X pins H' C→compPost (model X.prog X.w) X.A X.xe use Qf (.ref D) C (.ok .next) s'):
  wpAny (model X.prog X.w) X.A (comprehension (.ListComp elt [⟨tg,iter,ifs,0⟩] scope pos) scope X.env pos' (newList []) false (eval iter X.env) use) Qf X.xe s:=by
 have hfree:∀y∈scope.names,y.2=.free→∃c,X.env.cells.lookup y.1=some c:=fun y hy e=>by
  rcases ok.free y hy e with k | k
  ·exact I.ok.has _ (.inl k)
  ·exact I.ok.has _ (.inr k)
 refine wpAny_comprehension_free (use:=use) rfl hs (Cg hfree) ok.kind (fun y hy e=>by rw [ok.uniq y hy,e])
  (thn (hi pins s σ H _ I h) fun xv s1 hx=>thn hx fun itv s2 h2=>?_)
 obtain⟨it,fp,tn,J,H2,e,I2,T,st2,f2,q⟩:=h2
 subst e
 refine wpAny_newObj_type (zp ?_) (by show 0≤sizeLine; decide)
 generalize hD:s2.heap.objs.size=D
 have hDn:H2 D=none:=I2.hok.fresh (Nat.le_of_eq hD)
 obtain⟨W,⟨m0,w0⟩,turn⟩:=q D hDn
 generalize hs3:({s2 with heap:=s2.heap.push {cls:=.type "list",data:=.seq ([]:List Value).toArray}}:Shared)=s3
 have I3:Inv X pins σ (upd H2 D (.lst [])) s3:=by
  rw [←hs3]
  refine I2.laid (t':=s2.toks) (fun b o e=>Heap.get?_push_of_some _ e) (Nat.le_of_eq hD) ⟨Nat.zero_le _,[],0,.nil,?_⟩
  rw [←hD]
  exact Heap.get?_push_size _ rfl
 have h3:s3.heap=s2.heap.push {cls:=.type "list",data:=.seq ([]:List Value).toArray}:=by rw [←hs3]
 have sz:∀b∈fp,b < s2.heap.objs.size:=fun b hb=>by
  obtain⟨o,e,_⟩:=T.obj _ _ st2 b hb
  exact Heap.lt_size e
 have f3:∀b∈fp,qC X pins (upd H2 D (.lst [])) b∧b < s3.heap.objs.size:=fun b hb=>by
  have hlt:=sz b hb
  refine⟨⟨?_,(f2 b hb).2⟩,by rw [h3,Heap.size_push]; exact Nat.lt_succ_of_lt hlt⟩
  rw [aq (by rw [←hD]; exact Nat.ne_of_lt hlt)]
  exact(f2 b hb).1
 have st3:tn 0 s3.heap:=T.keep _ _ _ st2 fun b _ o e=>by rw [h3]; exact Heap.get?_push_of_some _ e
 have I4:=z9 I3 ok hN f3
 have pg:=hg s3 (upd H2 D (.lst [])) s3.heap.objs.size (cellsFrom (s3.heap.objs.size+1) scope.names (bT X.env.cells scope.names [])) fp
 have pt:=ht s3 (upd H2 D (.lst [])) s3.heap.objs.size (cellsFrom (s3.heap.objs.size+1) scope.names (bT X.env.cells scope.names [])) fp
 have pe:=he s3 (upd H2 D (.lst [])) s3.heap.objs.size (cellsFrom (s3.heap.objs.size+1) scope.names (bT X.env.cells scope.names [])) fp
 show codeAny _ _ (.compStart (.ListComp elt [⟨tg,iter,ifs,0⟩] scope pos) 0 (.ref it) (.ref D) (compEnvC scope (cellsFrom (s3.heap.objs.size+1) scope.names (bT X.env.cells scope.names [])) s3.heap.objs.size X.env)) (compPost (model X.prog X.w) X.A X.xe use Qf (.ref D) s3.heap.objs.size) {s3 with heap:=pushCells (s3.heap.push {cls:=.type "dict",data:=.dict #[]}) scope.names}
 have nfp:∀b∈fp,(upd H2 D (.lst [])) b=none:=fun b hb=>(f3 b hb).1.1
 generalize hce:compEnvC scope (cellsFrom (s3.heap.objs.size+1) scope.names (bT X.env.cells scope.names [])) s3.heap.objs.size X.env=ce at I4 pg pt pe⊢
 have cL:ce.locals=s3.heap.objs.size:=by subst hce; rfl
 generalize hH3:upd H2 D (.lst [])=H3 at I3 I4 pg pt pe w0 nfp f3
 generalize hs4:({s3 with heap:=pushCells (s3.heap.push {cls:=.type "dict",data:=.dict #[]}) scope.names}:Shared)=s4 at I4⊢
 have st4:tn 0 s4.heap:=T.keep _ _ _ st3 fun b _ o e=>by rw [←hs4]; exact pushCells_keeps _ _ _ _ (Heap.get?_push_of_some _ e)
 have stat:∀{σ':St} {H':Hp} {s':Shared},Inv (X.blk s3 H3 scope ce fp) [] σ' H' s'→(∀b∈fp,H' b=none)→∀b∈fp,qC (X.blk s3 H3 scope ce fp) [] H' b:=fun {σ' H' s'} I' hn b hb=>
  ⟨hn b hb,(I'.ok.exf b hb).1,I'.ok.exfs b hb,.inl hb,fun x c e=>(I'.ok.exf b hb).2 x c e,fun p hp=>absurd (show p∈([]:List (Addr×Obj))++[] from hp) (by simp)⟩
 have loop:codeAny (model X.prog X.w) X.A (.compLoop (.ListComp elt [⟨tg,iter,ifs,0⟩] scope pos) 0 (.ref it) (.ref D) ce) (compPost (model X.prog X.w) X.A X.xe use Qf (.ref D) s3.heap.objs.size) s4:=by
  refine xy (fun n s'=>∃i H',Inv (X.blk s3 H3 scope ce fp) [] (dY σ (own.map (·.2))) H' s'∧tn i s'.heap∧(∀b∈fp,H' b=none)∧W i n H') ?_ m0 ⟨0,H3,I4,st4,nfp,w0⟩
  rintro n s5 ⟨i,H5,I5,st5,n5,w5⟩
  rcases turn i n H5 w5 with⟨stop,qq⟩ | ⟨go,Nx,hNx,step⟩
  ·have td:=T.done (X.blk s3 H3 scope ce fp) rfl rfl rfl hc i [] s5 _ H5 (fun _ _=>False) I5 (stat I5 n5) st5 stop
   refine DX td fun r s6 ⟨hr,I6⟩=>?_
   subst hr
   have I7:Inv X pins σ H5 s6:=I3.call' (ch:=fp) I6.os I6.base I6.hok I6.bare fun b hb=>⟨(f3 b hb).1.2.2.2.1,(f3 b hb).1.2.1,(f3 b hb).1.2.2.2.2.1,(f3 b hb).1.2.2.2.2.2⟩
   have nC:H5 s3.heap.objs.size=none:=by
    have z:H5 ce.locals=none:=I6.free
    rw [cL] at z
    exact z
   obtain⟨m,hn,_⟩:=I6.loc
   have hn:s6.heap.Ns ce.locals m:=hn
   rw [cL] at hn
   exact hRR D s3.heap.objs.size s6 m H5 I7 qq hn (I3.fpOk (Nat.le_refl _) nC)
  ·have ti:=T.item (X.blk s3 H3 scope ce fp) rfl rfl rfl hc i [] s5 _ H5 (fun _ _=>False) I5 (stat I5 n5) st5 go
   refine DX ti fun r s6 ⟨u,hr,h6⟩=>?_
   subst hr
   refine DX h6 fun _ s7 ⟨x,H7,I7,r7,y7,st7,n7⟩=>?_
   have I7':=I7.pinned (stat I7 n7) (T.obj _ _ st7)
   refine DX (pg _ s7 _ H7 x u _ I7' r7 (step x H7 y7)) fun _ s8 ⟨σ8,H8,I8,hw8,q8⟩=>?_
   refine DX (pt _ s8 σ8 H8 _ I8 q8) fun b s9 ⟨H9,I9,q9⟩=>?_
   have fin:∀{s':Shared} {H':Hp},Inv (X.blk s3 H3 scope ce fp) ([]++rW fp s7.heap) σ8 H' s'→Nx H'→∃m,m < n∧∃i H',Inv (X.blk s3 H3 scope ce fp) [] (dY σ (own.map (·.2))) H' s'∧tn i s'.heap∧(∀b∈fp,H' b=none)∧W i m H':=fun {s' H'} I' nx=>by
    obtain⟨m',hm,w'⟩:=hNx H' nx
    have pin':∀b∈fp,∀o,s7.heap.get? b=some o→s'.heap.get? b=some o∧H' b=none:=fun b hb o e=>
     let z:=I'.pin (b,o) (List.mem_append_right _ (List.mem_append_right _ (mH hb e)))
     ⟨z.1,z.2.1⟩
    have hl:(dY σ (own.map (·.2))).length=σ8.length:=by rw [←hw8,j6]
    refine⟨m',hm,i+1,H',(I'.unpinned (pins:=[])).weak hl (fun j v e=>?_),T.keep _ _ _ st7 fun b hb o e=>(pin' b hb o e).1,fun b hb=>?_,w'⟩
    ·rw [←hw8] at e
     exact(oj e).1
    ·obtain⟨o,e,_⟩:=T.obj _ _ st7 b hb
     exact(pin' b hb o e).2
   cases b with
   | false=>
    simp only [Bool.false_eq_true,if_false] at q9⊢
    exact fin I9 q9
   | true=>
    simp only [if_true] at q9⊢
    refine DX (pe _ s9 σ8 H9 _ I9 q9) fun z s10 ⟨yv,H10,I10,r10,acc,hD10,hz10,nx⟩=>?_
    exact KJ (X:=X.blk s3 H3 scope ce fp) I10 hD10 hz10 r10 fun s11 I11=>fin I11 nx
 exact codeAny_compStart_list loop (T.self X.A 0 _ _ _ st4 loop)
theorem eK {elt tg iter:Expr} {ifs:List Expr} {scope:Scope} {own:List (Str×Nat)} {pos:Pos} {wi:TI} {g:TG} {tt:TT} {te:TE} (hc:X.calm=true) (hN:X.N.Nodup) (hi:PI X tg iter wi) (ok:At X.N X.env.scope scope own)
  (hg:∀(s:Shared) (H:Hp) (C:Addr) (cl:List (Str×Addr)) (fp:List Addr),PG (X.blk s H scope (compEnvC scope cl C X.env) fp) tg g) (ht:∀(s:Shared) (H:Hp) (C:Addr) (cl:List (Str×Addr)) (fp:List Addr),PTs (X.blk s H scope (compEnvC scope cl C X.env) fp) ifs tt)
  (he:∀(s:Shared) (H:Hp) (C:Addr) (cl:List (Str×Addr)) (fp:List Addr),PE (X.blk s H scope (compEnvC scope cl C X.env) fp) elt te) (hs:∀x,foldedSetIterable iter X.env x=pure x:=by intro _; rfl):
  PE X (.ListComp elt [⟨tg,iter,ifs,0⟩] scope pos) (tLc wi g tt te (own.map (·.2))):=by
 intro pins s σ H Q I h
 rw [eval_ListComp]
 refine Df hc hN I hi ok hg ht he hs h fun D C s' m H' I' q hn f=>⟨m,hn,fun h'' sb=>?_⟩
 obtain⟨f0,f1,f2,f3,f4,f5⟩:=f
 exact⟨.ref D,H',I'.turned (t':=s'.toks) (fun b o hb e=>(sb.2 b hb).trans e) f0 f1 f3 f4 f5,rfl,q⟩
theorem F1 {i:Nat} {y:Str} {py:Pos} {elt tg iter:Expr} {ifs:List Expr} {scope:Scope} {own:List (Str×Nat)} {pos spos:Pos} {wi:TI} {g:TG} {tt:TT} {te:TE} (hc:X.calm=true) (hN:X.N.Nodup) (hy:X.N[i]?= some y) (hyl:X.env.scope.names.lookup y=some .local)
  (hsw:swapsWith (.ListComp elt [⟨tg,iter,ifs,0⟩] scope pos) (some (.Name y py)) spos.line X.env=pure true) (hi:PI X tg iter wi) (ok:At X.N X.env.scope scope own)
  (hg:∀(s:Shared) (H:Hp) (C:Addr) (cl:List (Str×Addr)) (fp:List Addr),PG (X.blk s H scope (compEnvC scope cl C X.env) fp) tg g) (ht:∀(s:Shared) (H:Hp) (C:Addr) (cl:List (Str×Addr)) (fp:List Addr),PTs (X.blk s H scope (compEnvC scope cl C X.env) fp) ifs tt)
  (he:∀(s:Shared) (H:Hp) (C:Addr) (cl:List (Str×Addr)) (fp:List Addr),PE (X.blk s H scope (compEnvC scope cl C X.env) fp) elt te) (hs:∀x,foldedSetIterable iter X.env x=pure x:=by intro _; rfl):
  PS X (.Assign [.Name y py] (.ListComp elt [⟨tg,iter,ifs,0⟩] scope pos) spos) (yA (tLc wi g tt te (own.map (·.2))) (nP i)):=by
 intro pins s σ H D I h
 rw [exec_Assign_Name_used _ _ _ _ hsw]
 refine wpAny_bind (wpAny_standAt (wpAny_bind ?_))
 show wpAny _ X.A (do let _←comprehension (.ListComp elt [⟨tg,iter,ifs,0⟩] scope pos) scope X.env (firstIterPos [⟨tg,iter,ifs,0⟩] pos) (newList []) false (eval iter X.env) (some (assign (.Name y py) X.env))) _ _ s
 have h:tLc wi g tt te (own.map (·.2)) σ H (fun x H1=>nP i x σ H1 D.nx):=h
 refine wpAny_bind (thn (Df (Qf:=fun _ s'=>SP X pins D .next s') hc hN I hi ok hg ht he hs h fun L C s' m H' I' q hn f=>?_) fun _ s' hq=>wpAny_pure (wpAny_pure hq))
 show wpAny _ _ (assign (.Name y py) X.env (.ref L)) _ _ _
 refine wpAny_assign_Name (uY (v:=V.ref L) I' hN hy (.inl hyl) rfl (fun s2 I2 ⟨a,sb,ha⟩=>?_) (.inr hyl))
 obtain⟨f0,f1,f2,f3,f4,f5⟩:=f
 have haC:C≠a:=by
  rcases ha with z | z
  ·rw [z]; exact f1
  ·exact fun e=>f4 y a z e.symm
 refine⟨m,hn.sameBut sb haC,fun h3 sb3=>?_⟩
 exact⟨_,H',I2.turned (t':=s2.toks) (fun b o hb e=>(sb3.2 b hb).trans e) f0 f1 f3 f4 f5,q⟩
theorem HE {elt:Expr} {gs:List Comprehension} {scope:Scope} {pos py:Pos} {y:Str} {l:Nat} {env:Env} (hk:env.scope.kind=.function) (hy:env.scope.names.lookup y=some .local) (hl:(py.line == pos.line)=true)
  (ha:(scope.names.any fun (n,k)=>n == y && (k == .local || k == .cell))=false):swapsWith (.ListComp elt gs scope pos) (some (.Name y py)) l env=pure true:=by
 have ky:env.kindOf y=some .local:=hy
 have hb:env.blockKind=.function:=by unfold Env.blockKind; rw [hk]; rfl
 unfold swapsWith
 simp only [hb,ky,ha,Expr.pos,hl]
 rfl
end
theorem kz {lo:Int} {n:Nat} {g:TG} {tt:TT} {te:TE} {vs:List Nat} {σ:St} {H1:Hp} {D:Addr} {Qd:Hp→Prop} (Pv:Nat→Hp→Prop) (h0:Pv 0 (upd H1 D (.lst [])))
  (hs:∀i H,i < n→Pv i H→g (.int (lo+i)) (dY σ vs) H fun σ2 H2=>dY σ2 vs=dY σ vs∧tt σ2 H2 fun b H3=>
   if b=true then te σ2 H3 fun y H4=>∃acc,H4 D=some (.lst acc)∧acc.length < sizeLine∧Pv (i+1) (upd H4 D (.lst (acc++[y]))) else Pv (i+1) H3) (hd:∀H,Pv n H→Qd H):
  ∃W:Nat→Nat→Hp→Prop,(∃m,W 0 m (upd H1 D (.lst [])))∧∀i m H,W i m H→
   ((Itr lo n).stop i H∧Qd H)∨((Itr lo n).go i H∧∃Nx:Hp→Prop,(∀H',Nx H'→∃m',m' < m∧W (i+1) m' H')∧∀x H',(Itr lo n).yld i H x H'→g x (dY σ vs) H' fun σ2 H2=>dY σ2 vs=dY σ vs∧tt σ2 H2 fun b H3=>
    if b=true then te σ2 H3 fun y H4=>∃acc,H4 D=some (.lst acc)∧acc.length < sizeLine∧Nx (upd H4 D (.lst (acc++[y]))) else Nx H3):=by
 refine⟨fun i m H=>m=n - i∧i≤n∧Pv i H,⟨n,by simp,Nat.zero_le _,h0⟩,?_⟩
 rintro i m H ⟨rfl,hi,p⟩
 by_cases hlt:i < n
 ·refine .inr ⟨hlt,Pv (i+1),fun H' p'=>⟨n - (i+1),by omega,rfl,hlt,p'⟩,fun x H' y=>?_⟩
  obtain⟨e,y⟩:=y
  subst e y
  exact hs i _ hlt p
 ·have e:i=n:=by omega
  subst e
  exact .inl ⟨Nat.le_refl _,hd H p⟩
theorem dD {K:PySem.W.Frag} {a:Addr} {xs:List V} {g:TG} {tt:TT} {te:TE} {vs:List Nat} {σ:St} {H1:Hp} {D:Addr} {Qd:Hp→Prop} (Pv:Nat→Hp→Prop) (h0:Pv 0 (upd H1 D (.lst []))) (hl:∀i H,i≤xs.length→Pv i H→SqL K H a xs)
  (hs:∀i x H,xs[i]?= some x→Pv i H→g x (dY σ vs) H fun σ2 H2=>dY σ2 vs=dY σ vs∧tt σ2 H2 fun b H3=>
   if b=true then te σ2 H3 fun y H4=>∃acc,H4 D=some (.lst acc)∧acc.length < sizeLine∧Pv (i+1) (upd H4 D (.lst (acc++[y]))) else Pv (i+1) H3) (hd:∀H,Pv xs.length H→Qd H):
  ∃W:Nat→Nat→Hp→Prop,(∃m,W 0 m (upd H1 D (.lst [])))∧∀i m H,W i m H→
   ((Itl K a).stop i H∧Qd H)∨((Itl K a).go i H∧∃Nx:Hp→Prop,(∀H',Nx H'→∃m',m' < m∧W (i+1) m' H')∧∀x H',(Itl K a).yld i H x H'→g x (dY σ vs) H' fun σ2 H2=>dY σ2 vs=dY σ vs∧tt σ2 H2 fun b H3=>
    if b=true then te σ2 H3 fun y H4=>∃acc,H4 D=some (.lst acc)∧acc.length < sizeLine∧Nx (upd H4 D (.lst (acc++[y]))) else Nx H3):=by
 refine⟨fun i m H=>m=xs.length - i∧i≤xs.length∧Pv i H,⟨xs.length,by simp,Nat.zero_le _,h0⟩,?_⟩
 rintro i m H ⟨rfl,hi,p⟩
 have q:=hl i H hi p
 by_cases hlt:i < xs.length
 ·refine .inr ⟨⟨xs,xs[i],q,by simp [hlt]⟩,Pv (i+1),fun H' p'=>⟨xs.length - (i+1),by omega,rfl,hlt,p'⟩,fun x H' y=>?_⟩
  obtain⟨e,y⟩:=y
  subst e
  exact hs i x _ (y xs q) p
 ·have e:i=xs.length:=by omega
  subst e
  exact .inl ⟨⟨xs,q,Nat.le_refl _⟩,hd H p⟩
noncomputable def LY (N:List Str) (sc scope:Scope) (own:List (Str×Nat)):Bool:=
 (match scope.kind with | .function=>true | _=>false) && (scope.names.all fun y=>decide (scope.names.lookup y.1=some y.2)) && (own.all fun p=>decide (N[p.2]?= some p.1)) &&
  (scope.names.all fun y=>match y.2 with
   | .free=>(match sc.names.lookup y.1 with | some .cell=>true | some .free=>true | _=>false)
   | .local=>decide (y.1∈own.map (·.1)) || decide (y.1∉N)
   | .cell=>decide (y.1∈own.map (·.1)) || decide (y.1∉N)
   | _=>true)
theorem bH {N:List Str} {sc scope:Scope} {own:List (Str×Nat)} (h:LY N sc scope own=true):At N sc scope own:=by
 unfold LY at h
 simp only [Bool.and_eq_true,List.all_eq_true,decide_eq_true_eq] at h
 obtain⟨⟨⟨h1,h2⟩,h3⟩,h4⟩:=h
 refine⟨?_,h2,h3,fun y hy e=>?_,fun y hy e=>?_⟩
 ·split at h1
  ·assumption
  ·cases h1
 ·have q:=h4 y hy
  simp only [e] at q
  split at q <;> first | exact .inl (by assumption) | exact .inr (by assumption) | cases q
 ·have q:=h4 y hy
  rcases e with e | e <;> (simp only [e,Bool.or_eq_true,decide_eq_true_eq] at q; exact q)
end L2
namespace L2
open PySem PySem.Spec PyProof.Rows
section
variable {X:Cx} {pins:List (Addr×Obj)} {σ:St} {H:Hp} {s:Shared} {h':Heap}
theorem Inv.turnedL {t':Nat} {ch:List Addr} (I:Inv X pins σ H s) (k:∀b o,b∉ch→s.heap.get? b=some o→h'.get? b=some o) (hf:∀b∈ch,qC X pins H b):Inv X pins σ H {s with heap:=h',toks:=t'}:=by
 have nit:∀b u,H b=some u→b∉ch:=fun b u e z=>by
  have q:=(hf b z).1
  rw [q] at e; cases e
 refine I.step (g':=s.gens) (d':=s.drawn) (ch:=ch) (fun b hb=>⟨(hf b hb).2.2.2.1,(hf b hb).2.1,(hf b hb).2.2.2.2.1,(hf b hb).2.2.2.2.2⟩) (fun b o _ _ hc e _=>k b o hc e) (fun b o _ _ hc e _=>⟨o.slots,k b o hc e⟩)
  (fun _ _ _ _ n=>n) (fun b o hc e=>⟨o,k b o hc e⟩) (fun _ _ e=>e) (fun _ _ _ e=>e) (fun b ps e=>⟨#[],by rw [e]; simp⟩) (fun m hm=>?_) (fun b u e=>?_) I.bare
 ·obtain⟨o,es,ep,ho,r⟩:=hm
  exact⟨o,es,ep,k _ o (fun z=>(hf _ z).2.1 rfl) ho,r⟩
 ·refine(I.hok b u e).stay (fun c v hc q=>k c v ?_ q) (fun _ q=>q) fun _ _ q=>q
  rcases hc with z | z
  ·rw [z]; exact nit b u e
  ·exact nit c _ z
theorem Inv.turnedNew {t':Nat} {ch:List Addr} {T:Addr} {ob:HO} (I:Inv X pins σ H s) (k:∀b o,b∉ch→s.heap.get? b=some o→h'.get? b=some o) (hf:∀b∈ch,qC X pins H b) (hT:s.heap.objs.size≤T)
  (new:ObjOk X.prog X.w (upd H T ob) h' T ob):Inv X pins σ (upd H T ob) {s with heap:=h',toks:=t'}:=by
 have hn:H T=none:=I.hok.fresh hT
 have nit:∀b u,H b=some u→b∉ch:=fun b u e z=>by
  have q:=(hf b z).1
  rw [q] at e; cases e
 refine I.step (g':=s.gens) (d':=s.drawn) (ch:=ch) (fun b hb=>⟨(hf b hb).2.2.2.1,(hf b hb).2.1,(hf b hb).2.2.2.2.1,(hf b hb).2.2.2.2.2⟩) (fun b o _ _ hc e _=>k b o hc e) (fun b o _ _ hc e _=>⟨o.slots,k b o hc e⟩)
  (fun b o _ e n=>?_) (fun b o hc e=>⟨o,k b o hc e⟩) (fun b xs e=>?_) (fun b o u e=>?_) (fun b ps e=>⟨#[],?_⟩) (fun m hm=>?_) (fun b u e=>?_) I.bare
 ·rw [aq (Nat.ne_of_lt (Nat.lt_of_lt_of_le (Heap.lt_size e) hT))]; exact n
 ·rw [aq (az e hn)]; exact e
 ·rw [aq (az e hn)]; exact e
 ·rw [aq (az e hn),e]; simp
 ·obtain⟨o,es,ep,ho,r⟩:=hm
  exact⟨o,es,ep,k _ o (fun z=>(hf _ z).2.1 rfl) ho,r⟩
 ·by_cases hb:b=T
  ·subst hb
   rw [af] at e
   cases e
   exact new
  ·rw [aq hb] at e
   refine(I.hok b u e).stay (fun c v hc q=>k c v ?_ q) (fun c q=>by rw [aq (az q hn)]; exact q) fun c xs q=>by rw [aq (az q hn)]; exact q
   rcases hc with z | z
   ·rw [z]; exact nit b u e
   ·exact nit c _ z
end
section
variable {X:Cx}
theorem J5 {tg:Expr} {pins:List (Addr×Obj)} {σ:St} {H:Hp} {s:Shared} {R:It→Hp→Prop} {J:It} {tn:Nat→Heap→Prop} {tk:Nat} (I:Inv X pins σ H s) (o:Obj)
  (T:CG X.prog X.w X.K tg J [s.heap.objs.size] s.heap.objs.size tn) (st:tn 0 (s.heap.push o)) (q:R J H):PIE X pins σ tg R (.ref s.heap.objs.size) {s with heap:=s.heap.push o,toks:=tk}:=by
 refine⟨s.heap.objs.size,[s.heap.objs.size],tn,J,H,rfl,I.kept fun b ob e=>Heap.get?_push_of_some _ e,T,st,fun b hb=>?_,q⟩
 have e:b=s.heap.objs.size:=by simpa using hb
 subst e
 exact I.fpOk (Nat.le_refl _) (I.hok.fresh (Nat.le_refl _))
end
noncomputable def Itc (lo c:Int) (n:Nat):It:=⟨fun i _=>i < n,fun i H x H'=>H'=H∧x=.int (lo+(i:Nat)*c),fun i _=>n≤i⟩
theorem yx {P:Program} {w:World} {K:PySem.W.Frag} {tg:Expr} (it:Addr) (lo c:Int) (n:Nat):CG P w K tg (Itc lo c n) [it] it (fun i h=>IsRangeIter h it (lo+(i:Nat)*c) ((n:Int) - (i:Nat)) c) where
 mem:=by simp
 obj:=fun i h st b hb=>by
  have e:b=it:=by simpa using hb
  subst e
  exact⟨_,st,fun v z=>nomatch z⟩
 keep:=fun i h h' st k=>k it (by simp) _ st
 item:=by
  intro X hP hw hK hc i pins s σ H E I hf st hg
  subst hP hw hK
  obtain⟨f0,f1,f2,f3,f4,f5⟩:=hf it (by simp)
  have W:=Walks.range (prog:=X.prog) (w:=X.w) (I.ok.hd hc) it lo c n
  refine W.item i s _ _ hg st fun v h' tk hv st' kk=>?_
  obtain⟨t,rfl⟩:=hv
  have I1:Inv X pins σ H {s with heap:=h',toks:=tk}:=I.turned (fun b o hb e=>kk b o (by simpa using hb) e) f0 f1 f3 f4 f5
  exact⟨_,rfl,GB (s:={s with heap:=h',toks:=tk}) (n:="range_iterator") st' rfl rfl (by decide) ⟨.int (lo+(i:Nat)*c),H,I1,⟨t,rfl⟩,⟨rfl,rfl⟩,st',fun b hb=>(hf b hb).1⟩⟩
 done:=by
  intro X hP hw hK hc i pins s σ H E I hf st hg
  subst hP hw hK
  obtain⟨f0,f1,f2,f3,f4,f5⟩:=hf it (by simp)
  exact wpAny_pyNext_range_end (I.ok.hd hc) st (by have:n≤i:=hg; omega) fun h' eb=>⟨rfl,I.turned (t':=s.toks) (fun b o hb e=>eb b o hb e) f0 f1 f3 f4 f5⟩
 self:=fun A i s Q E st h=>wpAny_pyIter_rangeiter st h
noncomputable def RgC (i j c:Int) (n:Nat):Prop:=c≠0∧c.natAbs < 1073741824∧Builtin.Range.small i j c=true∧Builtin.Range.rangeSize i j c=n
theorem RgC.neg {i j:Int} (ha:-(2 ^ 62)≤i) (ha':i < 2 ^ 62) (hb:-(2 ^ 62)≤j) (hb':j < 2 ^ 62):RgC i j (-1) (i - j).toNat:=
 ⟨by decide,by decide,PySem.W.small_down ha ha' hb hb',PySem.W.rangeSize_downNat i j⟩
noncomputable def LC (ta:TA):TI:=fun σ H R=>ta σ H fun vs H1=>∃(i j c:Int) (n:Nat),vs=[.int i,.int j,.int c]∧RgC i j c n∧R (Itc i c n) H1
section
variable {X:Cx} {tg:Expr}
theorem Ei {a b c:Expr} {ta:TA} {p pos:Pos} (hg:Gl X "range") (hm:X.mg "range"=none) (ha:PA X [a,b,c] ta)
  (hs:starEach [a,b,c] X.env=(false,eval a X.env)::starEach [b,c] X.env:=by rfl) (hpl:(backTo pos (starEach [b,c] X.env)).any (·.1)=false:=by rfl):
  PI X tg (.Call (.Name "range" p) [a,b,c] [] pos) (LC ta):=by
 intro pins s σ H R I h
 refine Call_ (mK I hg hm boot_range (PyProof.Rows.callWith_type1 (thn (ha pos pins s σ H _ I h) fun us s1 ⟨vs,H1,I1,r1,q1⟩=>?_) hs hpl))
 obtain⟨i,j,k,n,e,⟨c0,c1,c2,c3⟩,q⟩:=q1
 subst e
 cases r1 with
 | cons r rr=>
  cases rr with
  | cons r' rr=>
   cases rr with
   | cons r'' rr=>
    cases rr
    obtain⟨t,rfl⟩:=r
    obtain⟨t',rfl⟩:=r'
    obtain⟨t'',rfl⟩:=r''
    refine call_range_3 c0 ?_ (.inl (PyProof.noPylong_small c1))
    refine wpAny_pyIter_range (IsRange.new ..) c2 ?_
    have I2:Inv X pins σ H1 {s1 with heap:=s1.heap.push {cls:=.type "range",data:=.fields #[.int i t,.int j t',.int k t'']}}:=I1.kept (t':=s1.toks) fun b o e=>Heap.get?_push_of_some _ e
    refine J5 (tk:=s1.toks) I2 _ (yx _ i k n) ?_ q
    have e1:i+((0:Nat):Int)*k=i:=by simp
    have e2:(n:Int) - ((0:Nat):Int)=Builtin.Range.rangeSize i j k:=by rw [c3]; simp
    show IsRangeIter _ _ (i+((0:Nat):Int)*k) ((n:Int) - ((0:Nat):Int)) k
    rw [e1,e2]
    exact Heap.get?_push_size _ rfl
end
theorem BT {lo c:Int} {n:Nat} {g:TG} {tb:TS} {D:t6} {σ:St} {H:Hp} (Pv:Nat→St→Hp→Prop) (h0:Pv 0 σ H)
  (hs:∀i σ H,i < n→Pv i σ H→g (.int (lo+(i:Nat)*c)) σ H fun σ2 H2=>tb {D with nx:=Pv (i+1),ct:=Pv (i+1),bk:=D.nx} σ2 H2) (hd:∀σ H,Pv n σ H→D.nx σ H):
  ∃W:Nat→Nat→St→Hp→Prop,(∃m,W 0 m σ H)∧∀i m σ H,W i m σ H→
   ((Itc lo c n).stop i H∧D.nx σ H)∨((Itc lo c n).go i H∧∃N:St→Hp→Prop,(∀σ' H',N σ' H'→∃m',m' < m∧W (i+1) m' σ' H')∧∀x H',(Itc lo c n).yld i H x H'→g x σ H' fun σ2 H2=>tb {D with nx:=N,ct:=N,bk:=D.nx} σ2 H2):=by
 refine⟨fun i m σ H=>m=n - i∧i≤n∧Pv i σ H,⟨n,by simp,Nat.zero_le _,h0⟩,?_⟩
 rintro i m σ H ⟨rfl,hi,p⟩
 by_cases hlt:i < n
 ·refine .inr ⟨hlt,Pv (i+1),fun σ' H' p'=>⟨n - (i+1),by omega,rfl,hlt,p'⟩,fun x H' y=>?_⟩
  obtain⟨e,y⟩:=y
  subst e y
  exact hs i σ _ hlt p
 ·have e:i=n:=by omega
  subst e
  exact .inl ⟨Nat.le_refl _,hd σ H p⟩
noncomputable def Ite (K:PySem.W.Frag) (a:Addr):It:=
 ⟨fun i H=>∃(xs:List V) (x:V),SqL K H a xs∧xs[i]?= some x,fun i H v H'=>∃T x,v=.ref T∧H T=none∧H'=upd H T (.tup [.int (i:Nat),x])∧∀xs,SqL K H a xs→xs[i]?= some x,fun i H=>∃xs:List V,SqL K H a xs∧xs.length≤i⟩
theorem DV {P:Program} {w:World} {K:PySem.W.Frag} {elts:List Expr} {kk:Nat} {tpos:Pos} (a e it:Addr):
  CG P w K (.Tuple elts kk tpos) (Ite K a) [e,it] e (fun i h=>(∃old,IsEnum h e it ((i:Nat):Int) old)∧h.IsListIter it a i∧e≠it) where
 mem:=by simp
 obj:=fun i h st b hb=>by
  obtain⟨⟨old,he⟩,⟨o,ho,hc,hd⟩,_⟩:=st
  have e':b=e∨b=it:=by simpa using hb
  rcases e' with z | z
  ·rw [z]; exact⟨_,he,fun v q=>nomatch q⟩
  ·rw [z]; exact⟨o,ho,fun v q=>by rw [hd] at q; cases q⟩
 keep:=fun i h h' st k=>let ⟨⟨old,he⟩,hi,hne⟩:=st; ⟨⟨old,k e (by simp) _ he⟩,hi.at fun o q=>k it (by simp) o q,hne⟩
 item:=by
  intro X hP hw hK hc i pins s σ H E I hf st hg
  subst hP hw hK
  obtain⟨⟨old,he⟩,hit,hne⟩:=st
  obtain⟨xs,x,hq,hx⟩:=hg
  obtain⟨its,rv,p,hz⟩:=I.list hq
  obtain⟨u,hu,ru⟩:=rv.get hx
  have hel:e < s.heap.objs.size:=Heap.lt_size he
  have hil:it < s.heap.objs.size:=by obtain⟨_,q,_⟩:=hit; exact Heap.lt_size q
  refine wpAny_pyNext_enum_item he hit p.isList (x:=u) (by simpa using hu) hne fun h' ho hit' hT hsz hk=>?_
  refine⟨_,rfl,wpAny_letOwnedTupleGo_enum (s:={s with heap:=h',toks:=s.toks+1}) ho fun h'' he' sb=>?_⟩
  have hT2:h''.get? s.heap.objs.size=some {cls:=.type "tuple",data:=.seq #[.int i s.toks,u]}:=(sb.2 _ (Nat.ne_of_gt hel)).trans hT
  have new:ObjOk X.prog X.w (upd H s.heap.objs.size (.tup [.int (i:Nat),x])) h'' s.heap.objs.size (.tup [.int (i:Nat),x]):=
   ⟨by show 2≤sizeLine; decide,[.int i s.toks,u],.cons ⟨_,rfl⟩ (.cons ru .nil),⟨_,hT2,rfl,_,rfl⟩⟩
  have I1:Inv X pins σ (upd H s.heap.objs.size (.tup [.int (i:Nat),x])) {s with heap:=h'',toks:=s.toks+1}:=
   I.turnedNew (ch:=[e,it]) (fun b ob hb q=>(sb.2 b (fun z=>hb (by simp [z]))).trans (hk b ob (fun z=>hb (by simp [z])) (fun z=>hb (by simp [z])) q)) hf (Nat.le_refl _) new
  refine⟨.ref s.heap.objs.size,_,I1,rfl,⟨_,x,rfl,I.hok.fresh (Nat.le_refl _),rfl,fun ys hy=>by rw [I.list_inj hy hq]; exact hx⟩,⟨⟨u,?_⟩,hit'.at fun o q=>(sb.2 it (Ne.symm hne)).trans q,hne⟩,fun b hb=>?_⟩
  ·have e1:((i+1:Nat):Int)=(i:Int)+1:=by omega
   rw [e1]; exact he'
  ·have hb':b < s.heap.objs.size:=by
    have e':b=e∨b=it:=by simpa using hb
    rcases e' with z | z
    ·rw [z]; exact hel
    ·rw [z]; exact hil
   rw [aq (Nat.ne_of_lt hb')]
   exact(hf b hb).1
 done:=by
  intro X hP hw hK hc i pins s σ H E I hf st hg
  subst hP hw hK
  obtain⟨⟨old,he⟩,hit,hne⟩:=st
  obtain⟨xs,hq,hx⟩:=hg
  obtain⟨its,rv,p,hz⟩:=I.list hq
  obtain⟨f0,f1,f2,f3,f4,f5⟩:=hf it (by simp)
  have hl:=rv.length
  exact wpAny_pyNext_enum_end (I.ok.hd hc) he hit p.isList (by simp; omega) fun h' eb=>⟨rfl,I.turned (t':=s.toks) (fun b o hb q=>eb b o hb q) f0 f1 f3 f4 f5⟩
 self:=fun A i s Q E st h=>let ⟨⟨_,he⟩,_⟩:=st; wpAny_pyIter_enum he h
noncomputable def LG (K:PySem.W.Frag) (ta:TA):TI:=fun σ H R=>ta σ H fun vs H1=>∃a xs,vs=[.ref a]∧SqL K H1 a xs∧R (Ite K a) H1
theorem wA {X:Cx} {e:Expr} {ta:TA} {p pos tpos:Pos} {elts:List Expr} {kk:Nat} (hg:Gl X "enumerate") (hm:X.mg "enumerate"=none) (ha:PA X [e] ta) (hs:starEach [e] X.env=[(false,eval e X.env)]:=by rfl):
  PI X (.Tuple elts kk tpos) (.Call (.Name "enumerate" p) [e] [] pos) (LG X.K ta):=by
 intro pins s σ H R I h
 refine Call_ (mK I hg hm boot_enumerate (PyProof.Rows.callWith_type1 (thn (ha pos pins s σ H _ I h) fun us s1 ⟨vs,H1,I1,r1,q1⟩=>?_) hs rfl))
 obtain⟨a,xs,ex,hq,q⟩:=q1
 subst ex
 cases r1 with
 | cons r rr=>
  cases rr
  cases r
  obtain⟨its,rv,p',hz⟩:=I1.list hq
  refine call_enumerate_list p'.isList fun h' he hit hsz hk=>wpAny_pyIter_enum he ?_
  have I2:Inv X pins σ H1 {s1 with heap:=h'}:=I1.kept (t':=s1.toks) hk
  refine⟨s1.heap.objs.size+1,[s1.heap.objs.size+1,s1.heap.objs.size],_,_,H1,rfl,I2,DV a (s1.heap.objs.size+1) s1.heap.objs.size,⟨⟨.none,he⟩,hit,Nat.succ_ne_self _⟩,fun b hb=>?_,q⟩
  have e':b=s1.heap.objs.size+1∨b=s1.heap.objs.size:=by simpa using hb
  have hle:s1.heap.objs.size≤b:=by
   rcases e' with z | z
   ·rw [z]; exact Nat.le_add_right _ _
   ·rw [z]; exact Nat.le_refl _
  exact I1.fpOk hle (I1.hok.fresh hle)
theorem Fc:bootBuiltins "zip"=some (.type "zip"):=by decide +kernel
noncomputable def Itz (K:PySem.W.Frag) (a b:Addr):It:=
 ⟨fun i H=>∃(xs ys:List V) (x y:V),SqL K H a xs∧SqL K H b ys∧xs[i]?= some x∧ys[i]?= some y,
  fun i H v H'=>∃T x y,v=.ref T∧H T=none∧H'=upd H T (.tup [x,y])∧(∀xs,SqL K H a xs→xs[i]?= some x)∧∀ys,SqL K H b ys→ys[i]?= some y,
  fun i H=>∃xs ys:List V,SqL K H a xs∧SqL K H b ys∧(xs.length≤i∨ys.length≤i)⟩
theorem FD {P:Program} {w:World} {K:PySem.W.Frag} {elts:List Expr} {kk:Nat} {tpos:Pos} {a b z TI TO i1 i2:Addr} (D:ZipApart z TI TO i1 i2 a b):
  CG P w K (.Tuple elts kk tpos) (Itz K a b) [z,TI,TO,i1,i2] z (fun i h=>IsZip h z TI TO .none∧IsPair h TI (.ref i1) (.ref i2)∧(∃x y,IsPair h TO x y)∧h.IsListIter i1 a i∧h.IsListIter i2 b i) where
 mem:=by simp
 obj:=fun i h st c hc=>by
  obtain⟨hz,hTI,⟨x,y,hTO⟩,⟨o1,e1,_,d1⟩,⟨o2,e2,_,d2⟩⟩:=st
  have e':c=z∨c=TI∨c=TO∨c=i1∨c=i2:=by simpa using hc
  rcases e' with q | q | q | q | q
  ·rw [q]; exact⟨_,hz,fun v q=>nomatch q⟩
  ·rw [q]; exact⟨_,hTI,fun v q=>nomatch q⟩
  ·rw [q]; exact⟨_,hTO,fun v q=>nomatch q⟩
  ·rw [q]; exact⟨o1,e1,fun v q=>by rw [d1] at q; cases q⟩
  ·rw [q]; exact⟨o2,e2,fun v q=>by rw [d2] at q; cases q⟩
 keep:=fun i h h' st k=>by
  obtain⟨hz,hTI,⟨x,y,hTO⟩,h1,h2⟩:=st
  exact⟨k z (by simp) _ hz,k TI (by simp) _ hTI,⟨x,y,k TO (by simp) _ hTO⟩,h1.at fun o q=>k i1 (by simp) o q,h2.at fun o q=>k i2 (by simp) o q⟩
 item:=by
  intro X hP hw hK hc i pins s σ H E I hf st hg
  subst hP hw hK
  obtain⟨hz,hTI,⟨x0,y0,hTO⟩,h1,h2⟩:=st
  obtain⟨xs,ys,x,y,hqx,hqy,hx,hy⟩:=hg
  obtain⟨its,rv,p,_⟩:=I.list hqx
  obtain⟨its2,rv2,p2,_⟩:=I.list hqy
  obtain⟨u,hu,ru⟩:=rv.get hx
  obtain⟨u2,hu2,ru2⟩:=rv2.get hy
  have hzl:z < s.heap.objs.size:=Heap.lt_size hz
  refine wpAny_pyNext_zip_item D hz hTI hTO h1 h2 p.isList p2.isList (x:=u) (y:=u2) (by simpa using hu) (by simpa using hu2) fun h' z' TO' h1' h2' hT hsz hk=>?_
  refine⟨_,rfl,wpAny_letOwnedTupleGo_zip (s:={s with heap:=h'}) z' fun h'' z'' sb=>?_⟩
  have hT2:h''.get? s.heap.objs.size=some {cls:=.type "tuple",data:=.seq #[u,u2]}:=(sb.2 _ (Nat.ne_of_gt hzl)).trans hT
  have new:ObjOk X.prog X.w (upd H s.heap.objs.size (.tup [x,y])) h'' s.heap.objs.size (.tup [x,y]):=
   ⟨by show 2≤sizeLine; decide,[u,u2],.cons ru (.cons ru2 .nil),⟨_,hT2,rfl,_,rfl⟩⟩
  have I1:Inv X pins σ (upd H s.heap.objs.size (.tup [x,y])) {s with heap:=h''}:=
   I.turnedNew (t':=s.toks) (ch:=[z,TI,TO,i1,i2]) (fun c o hb q=>(sb.2 c (fun q'=>hb (by simp [q']))).trans (hk c o (fun q'=>hb (by simp [q'])) (fun q'=>hb (by simp [q'])) (fun q'=>hb (by simp [q'])) (fun q'=>hb (by simp [q'])) q)) hf (Nat.le_refl _) new
  refine⟨.ref s.heap.objs.size,_,I1,rfl,⟨_,x,y,rfl,I.hok.fresh (Nat.le_refl _),rfl,fun l hl=>by rw [I.list_inj hl hqx]; exact hx,fun l hl=>by rw [I.list_inj hl hqy]; exact hy⟩,⟨z'',?_,⟨u,u2,?_⟩,?_,?_⟩,fun c hcm=>?_⟩
  ·exact(sb.2 _ D.TIz).trans (hk _ _ D.TIz D.TITO D.TIi1 D.TIi2 hTI)
  ·exact(sb.2 _ D.TOz).trans TO'
  ·exact h1'.at fun o q=>(sb.2 _ D.i1z).trans q
  ·exact h2'.at fun o q=>(sb.2 _ D.i2z).trans q
  ·have hlt:c < s.heap.objs.size:=by
    have e':c=z∨c=TI∨c=TO∨c=i1∨c=i2:=by simpa using hcm
    rcases e' with q | q | q | q | q
    ·rw [q]; exact hzl
    ·rw [q]; exact Heap.lt_size hTI
    ·rw [q]; exact Heap.lt_size hTO
    ·rw [q]; obtain⟨_,e1,_⟩:=h1; exact Heap.lt_size e1
    ·rw [q]; obtain⟨_,e2,_⟩:=h2; exact Heap.lt_size e2
   rw [aq (Nat.ne_of_lt hlt)]
   exact(hf c hcm).1
 done:=by
  intro X hP hw hK hc i pins s σ H E I hf st hg
  subst hP hw hK
  obtain⟨hz,hTI,⟨x0,y0,hTO⟩,h1,h2⟩:=st
  obtain⟨xs,ys,hqx,hqy,hend⟩:=hg
  obtain⟨its,rv,p,_⟩:=I.list hqx
  obtain⟨its2,rv2,p2,_⟩:=I.list hqy
  have l1:=rv.length
  have l2:=rv2.length
  have he:its.toArray[i]?= none∨its2.toArray[i]?= none:=by
   rcases hend with q | q
   ·exact .inl (by simp; omega)
   ·exact .inr (by simp; omega)
  exact wpAny_pyNext_zip_end (I.ok.hd hc) D hz hTI hTO h1 h2 p.isList p2.isList he fun h' hk=>⟨rfl,I.turnedL (t':=s.toks) (ch:=[z,TI,TO,i1,i2]) (fun c o hb q=>
   hk c o (fun q'=>hb (by simp [q'])) (fun q'=>hb (by simp [q'])) (fun q'=>hb (by simp [q'])) (fun q'=>hb (by simp [q'])) q) hf⟩
 self:=fun A i s Q E st h=>wpAny_pyIter_zip st.1 h
noncomputable def MM (K:PySem.W.Frag) (ta:TA):TI:=fun σ H R=>ta σ H fun vs H1=>∃a b xs ys,vs=[.ref a,.ref b]∧SqL K H1 a xs∧SqL K H1 b ys∧R (Itz K a b) H1
theorem F3 {X:Cx} {e e2:Expr} {ta:TA} {p pos tpos:Pos} {elts:List Expr} {kk:Nat} (hg:Gl X "zip") (hm:X.mg "zip"=none) (ha:PA X [e,e2] ta)
  (hs:starEach [e,e2] X.env=(false,eval e X.env)::starEach [e2] X.env:=by rfl) (hpl:(backTo pos (starEach [e2] X.env)).any (·.1)=false:=by rfl):
  PI X (.Tuple elts kk tpos) (.Call (.Name "zip" p) [e,e2] [] pos) (MM X.K ta):=by
 intro pins s σ H R I h
 refine Call_ (mK I hg hm Fc (PyProof.Rows.callWith_type1 (thn (ha pos pins s σ H _ I h) fun us s1 ⟨vs,H1,I1,r1,q1⟩=>?_) hs hpl))
 obtain⟨a,b,xs,ys,ex,hqx,hqy,q⟩:=q1
 subst ex
 cases r1 with
 | cons r rr=>
  cases rr with
  | cons r' rr=>
   cases rr
   cases r
   cases r'
   obtain⟨its,rv,p1,_⟩:=I1.list hqx
   obtain⟨its2,rv2,p2,_⟩:=I1.list hqy
   have la:a < s1.heap.objs.size:=p1.lt
   have lb:b < s1.heap.objs.size:=p2.lt
   refine call_zip_2 p1.isList p2.isList fun h' hz hTI hTO h1 h2 hsz hk=>wpAny_pyIter_zip hz ?_
   have I2:Inv X pins σ H1 {s1 with heap:=h'}:=I1.kept (t':=s1.toks) hk
   refine⟨s1.heap.objs.size+4,[s1.heap.objs.size+4,s1.heap.objs.size+2,s1.heap.objs.size+3,s1.heap.objs.size,s1.heap.objs.size+1],_,_,H1,rfl,I2,FD (PySem.W.ktu_apart s1.heap.objs.size a b la lb),⟨hz,hTI,⟨_,_,hTO⟩,h1,h2⟩,fun c hcm=>?_,q⟩
   have e':c=s1.heap.objs.size+4∨c=s1.heap.objs.size+2∨c=s1.heap.objs.size+3∨c=s1.heap.objs.size∨c=s1.heap.objs.size+1:=by simpa using hcm
   have hle:s1.heap.objs.size≤c:=by
    rcases e' with z | z | z | z | z
    ·rw [z]; exact Nat.le_add_right _ _
    ·rw [z]; exact Nat.le_add_right _ _
    ·rw [z]; exact Nat.le_add_right _ _
    ·rw [z]; exact Nat.le_refl _
    ·rw [z]; exact Nat.le_add_right _ _
   exact I1.fpOk hle (I1.hok.fresh hle)
end L2
namespace L2
open PySem PySem.Spec PyProof.Rows
noncomputable def bO (s:Stmt) (j:Nat):Stmt:=match s with
 | .ClassDef _ _ _ body _ _ _ _ _ _ _=>body.getD j (.Pass ⟨0,0,0,0⟩)
 | _=>.Pass ⟨0,0,0,0⟩
noncomputable def lQ (s:Stmt):Arguments:=match s with
 | .FunctionDef _ a _ _ _ _ _ _ _ _=>a
 | _=>{posonlyargs:=[],args:=[],vararg:=none,kwonlyargs:=[],kw_defaults:=[],kwarg:=none,defaults:=[]}
noncomputable def jC (s:Stmt):List Stmt:=match s with
 | .FunctionDef _ _ b _ _ _ _ _ _ _=>b
 | _=>[]
noncomputable def aw (s:Stmt):Scope:=match s with
 | .FunctionDef _ _ _ _ _ _ sc _ _ _=>sc
 | _=>{kind:=.function,names:=[],isGenerator:=false,isCoroutine:=false}
noncomputable abbrev CX0:CXT:=fun _ _ _ _ _ _=>False
noncomputable abbrev E0:XK:=fun _ _ _=>False
theorem vh {X:Cx}:jF CX0 X E0:=fun _ _ _ _ _ _ _ h=>h.elim
structure Fun (K:PySem.W.Frag) (x qual:Str) (st:Stmt) (f:Addr) (fd:FuncData):Prop where
 ex:∃(oc:Value) (od:Option Addr) (kV doc pm:Value) (an:Option Addr) (cdv ct:Value) (osl:Array (Option Value)),
  fd=PySem.W.fnOf x qual (lQ st) (jC st) (aw st) .none kV doc pm an cdv ct∧K.lookup f=some ⟨oc,od,.func fd,osl⟩∧PySem.W.codeIn K cdv qual=true
 kp:PySem.W.keepIn K (.ref f)=true
section
variable {P:Program} {w:World} {K:PySem.W.Frag} {mg:Str→Option Value} {base:Heap}
theorem Fun.ok {x qual:Str} {st:Stmt} {f:Addr} {fd:FuncData} {N ps:List Str} {k:Nat} {sp:Sp} (F:Fun K x qual st f fd) (S:aD N ps (aw st)) (len:∀vs H Q E,sp vs H Q E→vs.length=ps.length)
  (hbody:∀(cdv:Value) (A:Around) (outer:List Env) (s:Shared) (H:Hp) (vs:List V) (Q:VK) (E:XK),Room k (A.deeper (envOfC qual (aw st) s.heap.objs.size f cdv))→sp vs H Q E→
   ∃t,PSs (zZ CX0 P w K mg base N qual (aw st) f cdv A outer s H E).nox (jC st) t∧t {nx:=fun _ H'=>Q .non H',rt:=Q} (start N vs) H):FnOk P w K mg base CX0 (k+1) f fd ps sp:=by
 obtain⟨oc,od,kV,doc,pm,an,cdv,ct,osl,rfl,lk,hcd⟩:=F.ex
 refine LJ lk hcd S len fun A outer s H vs Q E hr hsp=>?_
 obtain⟨t,h,q⟩:=hbody cdv A outer s H vs Q E hr hsp
 exact⟨t,h.nox,q⟩
theorem Fun.binds {x qual:Str} {st:Stmt} {f:Addr} {fd:FuncData} {ps:List Str} (F:Fun K x qual st f fd)
  (h:∀(kV doc pm:Value) (an:Option Addr) (cdv ct:Value) (us:List Value),us.length=ps.length→bindArgs (PySem.W.fnOf x qual (lQ st) (jC st) (aw st) .none kV doc pm an cdv ct) ⟨us,[]⟩=pure (ps.zip us)):Binds K fd ps []:=by
 obtain⟨oc,od,kV,doc,pm,an,cdv,ct,osl,rfl,lk,hcd⟩:=F.ex
 exact .all (h kV doc pm an cdv ct)
theorem GE {x qual:Str} {st:Stmt} {f:Addr} {oc:Value} {od an:Option Addr} {osl:Array (Option Value)} {kV doc pm cdv ct:Value} (l:K.lookup f=some ⟨oc,od,.func (PySem.W.fnOf x qual (lQ st) (jC st) (aw st) .none kV doc pm an cdv ct),osl⟩)
  (c:PySem.W.codeIn K cdv qual=true) (k:PySem.W.keepIn K (.ref f)=true):Fun K x qual st f (PySem.W.fnOf x qual (lQ st) (jC st) (aw st) .none kV doc pm an cdv ct):=⟨⟨oc,od,kV,doc,pm,an,cdv,ct,osl,rfl,l,c⟩,k⟩
end
theorem bu {n:Nat} (h:n≤1000):n < sizeLine:=Nat.lt_of_le_of_lt h (by decide)
section
variable {X:Cx}
theorem pv (i:Nat) {x:Str} {pos:Pos} (hN:X.N[i]?= some x:=by rfl) (hv:Vis X.env.scope x:=by first | exact Or.inl rfl | exact Or.inr (Or.inl rfl) | exact Or.inr (Or.inr rfl)) (hd:(x == ("__debug__": Str))=false:=by decide)
  (hcd:(x == ("__classdict__": Str))=false:=by decide):PE X (.Name x pos) (K5 i):=J7 hN hv hd hcd
end
theorem jq {A B:Prop} (h:B):if false=true then A else B:=by
 rw [if_neg Bool.false_ne_true]
 exact h
theorem gy {A B:Prop} (h:A):if true=true then A else B:=by
 rw [if_pos rfl]
 exact h
noncomputable def Same (H H':Hp):Prop:=∀b o,H b=some o→H' b=some o
theorem Same.refl (H:Hp):Same H H:=fun _ _ h=>h
theorem Same.trans {H H1 H2:Hp} (a:Same H H1) (b:Same H1 H2):Same H H2:=fun c o h=>b c o (a c o h)
theorem Same.free {H H':Hp} (e:Same H H') {l:Addr} (h:H' l=Option.none):H l=Option.none:=by
 cases q:H l with
 | none=>rfl
 | some o=>
  rw [e l o q] at h
  cases h
theorem Same.seq {K:PySem.W.Frag} {H H':Hp} {a:Addr} {xs:List V} (e:Same H H') (h:SqL K H a xs):SqL K H' a xs:=by
 rcases h with(h | ⟨o,h⟩) | h
 ·exact .inl (.inl (e _ _ h))
 ·exact .inl (.inr ⟨o,e _ _ h⟩)
 ·exact .inr h
theorem bW {xs:List V} {z:Int} {j:Nat} {v:V} (e:z=(j:Int)) (h:xs[j]?= some v):atI xs z=some v:=by
 rw [e]
 exact Ja h
end L2
section
set_option Elab.async false
set_option linter.all false
set_option maxRecDepth 100000
set_option maxHeartbeats 2000000
namespace L2
open PySem PySem.Spec PyProof.Rows
open PySem.W (WData Codec OpenSpec Well WellAll ReadsW ReadsAllW)
mutual
inductive Dw (K:PySem.W.Frag) (H:Hp):V→WData→Prop
 | non:Dw K H .non .none
 | bl (b:Bool):Dw K H (.bl b) (.bool b)
 | int (i:Int):Dw K H (.int i) (.int i)
 | str (x:Str):Dw K H (.str x) (.str x)
 | byt (b:Array UInt8):Dw K H (.byt b) (.bytes b.toList)
 | lst {a:Addr} {xs:List V} {ds:List WData}:SqL K H a xs→jU K H xs ds→Dw K H (.ref a) (.list ds)
 | tup {a:Addr} {xs:List V} {ds:List WData}:SqT K H a xs→jU K H xs ds→Dw K H (.ref a) (.tuple ds)
inductive jU (K:PySem.W.Frag) (H:Hp):List V→List WData→Prop
 | nil:jU K H [] []
 | cons {v:V} {vs:List V} {d:WData} {ds:List WData}:Dw K H v d→jU K H vs ds→jU K H (v::vs) (d::ds)
end
theorem DC {K:PySem.W.Frag} {H:Hp}:∀ns:List Int,jU K H (ns.map V.int) (ns.map WData.int)
 | []=>.nil
 | n::r=>.cons (.int n) (DC r)
theorem Dk {K:PySem.W.Frag} {H:Hp}:∀(ns:List Int) (xs:List V),jU K H xs (ns.map WData.int)→xs=ns.map V.int
 | [],xs,h=>by
  cases h
  rfl
 | n::r,xs,h=>by
  cases h with
  | cons h1 h2=>
   cases h1
   rw [Dk r _ h2] <;> rfl
section
variable {P:Program} {w:World} {K:PySem.W.Frag} {H:Hp} {h:Heap} {R:PySem.W.WRecords} {cl:Str→Option Addr}
theorem JS {a:Addr} {xs:List V} (hok:HOk P w H h) (KX:K.In h) (q:SqL K H a xs):∃(its:List Value) (o:Obj) (n:Nat),Vals xs its∧h.get? a=some o∧o.cls=.type "list"∧o.data=.seq its.toArray n:=by
 rcases q with q | ⟨o,its,n,e,hc,_,hd,_,hv⟩
 ·obtain⟨_,its,n,hv,e⟩:=(show ObjOk P w H h a (.lst xs) from q.ok hok)
  exact⟨its,_,n,hv,e,rfl,rfl⟩
 ·exact⟨its.toList,o,n,hv,KX _ _ e,hc,by simp [hd]⟩
theorem JR {a:Addr} {xs:List V} (hok:HOk P w H h) (KX:K.In h) (q:SqT K H a xs):∃(its:List Value) (o:Obj) (n:Nat),Vals xs its∧h.get? a=some o∧o.cls=.type "tuple"∧o.data=.seq its.toArray n:=by
 rcases q with q | ⟨o,its,n,e,hc,hd,_,hv⟩
 ·obtain⟨_,its,hv,o,e,hc,n,hd⟩:=(show ObjOk P w H h a (.tup xs) from q.ok hok)
  exact⟨its,o,n,hv,e,hc,hd⟩
 ·exact⟨its.toList,o,n,hv,KX _ _ e,hc,by simp [hd]⟩
mutual
theorem Dw.reads (hok:HOk P w H h) (KX:K.In h):∀(d:WData) (v:V) (u:Value),Dw K H v d→RelV v u→∃as,ReadsW R cl h u d as
 | .none,_,_,x,r=>by
  cases x
  cases r
  exact⟨_,ReadsW.none⟩
 | .bool b,_,_,x,r=>by
  cases x
  cases r
  exact⟨_,ReadsW.bool b⟩
 | .int i,_,_,x,r=>by
  cases x
  obtain⟨t,rfl⟩:=r
  exact⟨_,ReadsW.int i t⟩
 | .str s,_,_,x,r=>by
  cases x
  obtain⟨t,rfl⟩:=r
  exact⟨_,ReadsW.str s t⟩
 | .bytes b,_,_,x,r=>by
  cases x
  obtain⟨t,rfl⟩:=r
  exact⟨_,ReadsW.bytes _ t⟩
 | .list ds,_,_,x,r=>by
  cases x with
  | lst hs ha=>
   cases r
   obtain⟨its,o,n,rv,ho,hc,hd⟩:=JS hok KX hs
   obtain⟨as,hr⟩:=Dw.readsAll hok KX ds _ its ha rv
   exact⟨_,ReadsW.list ho hc hd hr⟩
 | .tuple ds,_,_,x,r=>by
  cases x with
  | tup hs ha=>
   cases r
   obtain⟨its,o,n,rv,ho,hc,hd⟩:=JR hok KX hs
   obtain⟨as,hr⟩:=Dw.readsAll hok KX ds _ its ha rv
   exact⟨_,ReadsW.tuple ho hc hd hr⟩
 | .float _,_,_,x,_=>by cases x
 | .dict _,_,_,x,_=>by cases x
 | .bytearray _,_,_,x,_=>by cases x
 | .set _,_,_,x,_=>by cases x
 | .frozenset _,_,_,x,_=>by cases x
 | .obj _ _,_,_,x,_=>by cases x
theorem Dw.readsAll (hok:HOk P w H h) (KX:K.In h):∀(ds:List WData) (vs:List V) (us:List Value),jU K H vs ds→Vals vs us→∃as,ReadsAllW R cl h us ds as
 | [],_,_,x,r=>by
  cases x
  cases r
  exact⟨_,ReadsAllW.nil⟩
 | d::ds,_,_,x,r=>by
  cases x with
  | cons h1 h2=>
   cases r with
   | cons r1 r2=>
    obtain⟨as,q1⟩:=Dw.reads hok KX d _ _ h1 r1
    obtain⟨bs,q2⟩:=Dw.readsAll hok KX ds _ _ h2 r2
    exact⟨_,ReadsAllW.cons q1 q2⟩
end
end
mutual
noncomputable def plW:WData→Bool
 | .none=>true
 | .bool _=>true
 | .int _=>true
 | .str _=>true
 | .bytes _=>true
 | .list xs=>qe xs
 | .tuple xs=>qe xs
 | _=>false
noncomputable def qe:List WData→Bool
 | []=>true
 | x::r=>plW x && qe r
end
theorem y8 {α:Type} {f:α→WData} (h:∀a,plW (f a)=true):∀l:List α,qe (l.map f)=true
 | []=>rfl
 | x::r=>by
  show(plW (f x) && qe (r.map f))=true
  rw [h x,y8 h r] <;> rfl
theorem kq:∀(c:Codec) (a:c.denote),plW (c.enc a)=true
 | .unit,_=>rfl
 | .bool,_=>rfl
 | .int _ _,_=>rfl
 | .nat _ _,_=>rfl
 | .u8,_=>rfl
 | .bytes _ _,_=>rfl
 | .text _ _ _ _,_=>rfl
 | .list _ _ c,a=>y8 (fun x=>kq c x) a
 | .pair c d,a=>by
  show(plW (c.enc a.1) && (plW (d.enc a.2) && true))=true
  rw [kq c a.1,kq d a.2] <;> rfl
 | .triple c d e,a=>by
  show(plW (c.enc a.1) && (plW (d.enc a.2.1) && (plW (e.enc a.2.2) && true)))=true
  rw [kq c a.1,kq d a.2.1,kq e a.2.2] <;> rfl
 | .option c,none=>rfl
 | .option c,some x=>kq c x
theorem vf:∀(cs:List Codec) (a:Codec.denoteAll cs),qe (Codec.encAll cs a)=true
 | [],_=>rfl
 | c::cs,a=>by
  show(plW (c.enc a.1) && qe (Codec.encAll cs a.2))=true
  rw [kq c a.1,vf cs a.2] <;> rfl
theorem me:∀{xs:List WData} {d:WData},d∈xs→d.weight≤WData.weightAll xs
 | [],d,h=>absurd h (by simp)
 | x::r,d,h=>by
  show d.weight≤x.weight+1+WData.weightAll r
  rcases List.mem_cons.mp h with e | m
  ·rw [e]
   omega
  ·have z:=me m
   omega
noncomputable def toV:Value→V
 | .none=>.non
 | .bool b=>.bl b
 | .int i _=>.int i
 | .str x _=>.str x
 | .bytes b _=>.byt b
 | .ref a=>.ref a
 | _=>.non
noncomputable def OkU (A:List Addr):Value→Prop
 | .none=>True
 | .bool _=>True
 | .int _ _=>True
 | .str _ _=>True
 | .bytes _ _=>True
 | .ref a=>a∈A
 | _=>False
theorem OkU.mono {A B:List Addr} (h:∀a∈A,a∈B):∀{u:Value},OkU A u→OkU B u:=fun {u} x=>by
 cases u with
 | ref a=>exact h a x
 | none=>trivial
 | bool b=>trivial
 | int i t=>trivial
 | str s t=>trivial
 | bytes b t=>trivial
 | _=>exact False.elim x
theorem FZ {A:List Addr} {u:Value} (x:OkU A u):RelV (toV u) u:=by
 cases u with
 | ref a=>rfl
 | none=>rfl
 | bool b=>rfl
 | int i t=>exact⟨t,rfl⟩
 | str s t=>exact⟨t,rfl⟩
 | bytes b t=>exact⟨t,rfl⟩
 | _=>exact False.elim x
theorem iQ {A:List Addr}:∀{vs:List Value},(∀u∈vs,OkU A u)→Vals (vs.map toV) vs
 | [],_=>.nil
 | u::r,h=>.cons (FZ (h u (List.mem_cons_self ..))) (iQ fun x hx=>h x (List.mem_cons_of_mem _ hx))
noncomputable def ArgOb (h:Heap) (A:List Addr) (a:Addr):Prop:=∃vs:List Value,vs.length≤sizeLine∧(∀u∈vs,OkU A u)∧
 (h.get? a=some {cls:=.type "list",data:=.seq vs.toArray}∨h.get? a=some {cls:=.type "tuple",data:=.seq vs.toArray})
theorem ArgOb.mono {h:Heap} {A B:List Addr} {a:Addr} (k:∀a∈A,a∈B) (x:ArgOb h A a):ArgOb h B a:=by
 obtain⟨vs,h1,h2,h3⟩:=x
 exact⟨vs,h1,fun u hu=>(h2 u hu).mono k,h3⟩
theorem hX {P:Params} {h:Heap}:∀{vs:List Value} {ds:List WData},WellAll P h vs ds→vs.length=ds.length
 | _,_,.nil=>rfl
 | _,_,.cons _ b=>by
  show _+1=_+1
  rw [hX b]
theorem uV {P:Params} {h:Heap} {v:Value} {ds:List WData} (x:Well P h v (.list ds)):∃(a:Addr) (vs:List Value),v=.ref a∧h.get? a=some {cls:=.type "list",data:=.seq vs.toArray}∧WellAll P h vs ds:=by
 cases x with
 | list ho hall=>exact⟨_,_,rfl,ho,hall⟩
theorem qW {P:Params} {h:Heap} {v:Value} {ds:List WData} (x:Well P h v (.tuple ds)):∃(a:Addr) (vs:List Value),v=.ref a∧h.get? a=some {cls:=.type "tuple",data:=.seq vs.toArray}∧WellAll P h vs ds:=by
 cases x with
 | tuple ho hall=>exact⟨_,_,rfl,ho,hall⟩
theorem uW {P:Params} {h:Heap} {us:List Value} {d:WData} {ds:List WData} (x:WellAll P h us (d::ds)):∃(v:Value) (vs:List Value),us=v::vs∧Well P h v d∧WellAll P h vs ds:=by
 cases x with
 | cons a b=>exact⟨_,_,rfl,a,b⟩
theorem Dc {n:Nat} (h:n≤1048576):n≤sizeLine:=Nat.le_trans h (by decide)
section
variable {P:Params} {h:Heap}
mutual
theorem G7:∀(d:WData) (v:Value),Well P h v d→plW d=true→d.weight≤1048576→∃A:List Addr,OkU A v∧∀a∈A,ArgOb h A a
 | .none,_,x,_,_=>by
  cases x
  exact⟨[],trivial,fun a m=>absurd m (by simp)⟩
 | .bool b,_,x,_,_=>by
  cases x
  exact⟨[],trivial,fun a m=>absurd m (by simp)⟩
 | .int i,_,x,_,_=>by
  cases x
  exact⟨[],trivial,fun a m=>absurd m (by simp)⟩
 | .str s,_,x,_,_=>by
  cases x
  exact⟨[],trivial,fun a m=>absurd m (by simp)⟩
 | .bytes b,_,x,_,_=>by
  cases x
  exact⟨[],trivial,fun a m=>absurd m (by simp)⟩
 | .list ds,_,x,p,z=>by
  obtain⟨a,vs,rfl,ho,hall⟩:=uV x
  have z2:WData.weightAll ds≤1048576:=z
  obtain⟨A,h1,h2⟩:=nY ds _ hall p fun d hd=>Nat.le_trans (me hd) z2
  have k:∀b∈A,b∈a::A:=fun b hb=>List.mem_cons_of_mem _ hb
  refine⟨a::A,List.mem_cons_self ..,fun b hb=>?_⟩
  rcases List.mem_cons.mp hb with e | m
  ·rw [e]
   exact⟨vs,Dc (by rw [hX hall]; exact Nat.le_trans (PySem.W.length_le_weightAllW ds) z2),fun u hu=>(h1 u hu).mono k,.inl ho⟩
  ·exact(h2 b m).mono k
 | .tuple ds,_,x,p,z=>by
  obtain⟨a,vs,rfl,ho,hall⟩:=qW x
  have z2:WData.weightAll ds≤1048576:=z
  obtain⟨A,h1,h2⟩:=nY ds _ hall p fun d hd=>Nat.le_trans (me hd) z2
  have k:∀b∈A,b∈a::A:=fun b hb=>List.mem_cons_of_mem _ hb
  refine⟨a::A,List.mem_cons_self ..,fun b hb=>?_⟩
  rcases List.mem_cons.mp hb with e | m
  ·rw [e]
   exact⟨vs,Dc (by rw [hX hall]; exact Nat.le_trans (PySem.W.length_le_weightAllW ds) z2),fun u hu=>(h1 u hu).mono k,.inr ho⟩
  ·exact(h2 b m).mono k
 | .float _,_,_,p,_=>Bool.noConfusion (show false=true from p)
 | .dict _,_,_,p,_=>Bool.noConfusion (show false=true from p)
 | .bytearray _,_,_,p,_=>Bool.noConfusion (show false=true from p)
 | .set _,_,_,p,_=>Bool.noConfusion (show false=true from p)
 | .frozenset _,_,_,p,_=>Bool.noConfusion (show false=true from p)
 | .obj _ _,_,_,p,_=>Bool.noConfusion (show false=true from p)
theorem nY:∀(ds:List WData) (vs:List Value),WellAll P h vs ds→qe ds=true→(∀d∈ds,d.weight≤1048576)→∃A:List Addr,(∀u∈vs,OkU A u)∧∀a∈A,ArgOb h A a
 | [],_,x,_,_=>by
  cases x
  exact⟨[],fun u m=>absurd m (by simp),fun a m=>absurd m (by simp)⟩
 | d::ds,_,x,p,z=>by
  obtain⟨v,vs,rfl,x1,x2⟩:=uW x
  have q:plW d=true∧qe ds=true:=Bool.and_eq_true_iff.mp p
  obtain⟨A,a1,a2⟩:=G7 d v x1 q.1 (z d (List.mem_cons_self ..))
  obtain⟨B,b1,b2⟩:=nY ds vs x2 q.2 fun e he=>z e (List.mem_cons_of_mem _ he)
  have kA:∀b∈A,b∈A++B:=fun b hb=>List.mem_append.mpr (.inl hb)
  have kB:∀b∈B,b∈A++B:=fun b hb=>List.mem_append.mpr (.inr hb)
  refine⟨A++B,fun u hu=>?_,fun b hb=>?_⟩
  ·rcases List.mem_cons.mp hu with e | m
   ·rw [e]
    exact a1.mono kA
   ·exact(b1 u m).mono kB
  ·rcases List.mem_append.mp hb with m | m
   ·exact(a2 b m).mono kA
   ·exact(b2 b m).mono kB
end
end
noncomputable def IB (o:Obj):Option HO:=match o.data with
 | .seq vs _=>if (o.cls == Value.type "list")=true then some (.frz o (.lst (vs.toList.map toV))) else some (.frz o (.tup (vs.toList.map toV)))
 | _=>none
noncomputable def iI (K:PySem.W.Frag) (h:Heap) (A:List Addr):Hp:=fun b=>if b∈A then(if (K.lookup b).isNone=true then(h.get? b).bind IB else none) else none
noncomputable def As (H:Hp):Prop:=∀b,H b=none∨∃o u,H b=some (.frz o u)
theorem zA (vs:List Value):IB {cls:=.type "list",data:=.seq vs.toArray}=some (.frz {cls:=.type "list",data:=.seq vs.toArray} (.lst (vs.map toV))):=by
 show(if (Value.type "list" == Value.type "list")=true then some (HO.frz {cls:=.type "list",data:=.seq vs.toArray} (.lst (vs.toArray.toList.map toV))) else some (HO.frz {cls:=.type "list",data:=.seq vs.toArray} (.tup (vs.toArray.toList.map toV))))=_
 rw [if_pos (beq_self_eq_true _)]
theorem zy (vs:List Value):IB {cls:=.type "tuple",data:=.seq vs.toArray}=some (.frz {cls:=.type "tuple",data:=.seq vs.toArray} (.tup (vs.map toV))):=by
 show(if (Value.type "tuple" == Value.type "list")=true then some (HO.frz {cls:=.type "tuple",data:=.seq vs.toArray} (.lst (vs.toArray.toList.map toV))) else some (HO.frz {cls:=.type "tuple",data:=.seq vs.toArray} (.tup (vs.toArray.toList.map toV))))=_
 rw [if_neg (by decide)]
section
variable {P:Program} {w:World} {K:PySem.W.Frag} {h:Heap} {A:List Addr}
theorem qU {b:Addr} {o:Obj} (hb:b∈A) (hk:K.lookup b=none) (e:h.get? b=some o):iI K h A b=IB o:=by
 unfold iI
 rw [if_pos hb,hk,if_pos (show(none:Option Obj).isNone=true from rfl),e] <;> rfl
theorem Ij {b:Addr} {u:HO} (q:iI K h A b=some u):b∈A∧K.lookup b=none:=by
 unfold iI at q
 by_cases hb:b∈A
 ·rw [if_pos hb] at q
  cases hk:K.lookup b with
  | none=>exact⟨hb,rfl⟩
  | some o=>
   rw [hk,if_neg (by simp)] at q
   cases q
 ·rw [if_neg hb] at q
  cases q
theorem nX (ar:∀a∈A,ArgOb h A a) {b:Addr} {u:HO} (q:iI K h A b=some u):K.lookup b=none∧∃vs:List Value,vs.length≤sizeLine∧(∀u∈vs,OkU A u)∧
  ((h.get? b=some {cls:=.type "list",data:=.seq vs.toArray}∧u=.frz {cls:=.type "list",data:=.seq vs.toArray} (.lst (vs.map toV)))∨
   (h.get? b=some {cls:=.type "tuple",data:=.seq vs.toArray}∧u=.frz {cls:=.type "tuple",data:=.seq vs.toArray} (.tup (vs.map toV)))):=by
 obtain⟨hb,hk⟩:=Ij q
 obtain⟨vs,h1,h2,h3⟩:=ar b hb
 refine⟨hk,vs,h1,h2,?_⟩
 rcases h3 with e | e
 ·rw [qU hb hk e,zA] at q
  exact .inl ⟨e,(Option.some.inj q).symm⟩
 ·rw [qU hb hk e,zy] at q
  exact .inr ⟨e,(Option.some.inj q).symm⟩
theorem Fe (ar:∀a∈A,ArgOb h A a):As (iI K h A):=fun b=>by
 cases q:iI K h A b with
 | none=>exact .inl rfl
 | some u=>
  obtain⟨_,vs,_,_,⟨_,e⟩ | ⟨_,e⟩⟩:=nX ar q
  ·exact .inr ⟨_,_,by rw [e]⟩
  ·exact .inr ⟨_,_,by rw [e]⟩
theorem Jb (ar:∀a∈A,ArgOb h A a):HOk P w (iI K h A) h:=fun b u q=>by
 obtain⟨_,vs,h1,h2,⟨e,rfl⟩ | ⟨e,rfl⟩⟩:=nX ar q
 ·exact⟨e,by rw [List.length_map]; exact h1,vs,_,iQ h2,e⟩
 ·exact⟨e,by rw [List.length_map]; exact h1,vs,iQ h2,_,e,rfl,_,rfl⟩
theorem qG {c c':Value} {vs us:List Value} (e:(some {cls:=c,data:=.seq vs.toArray}:Option Obj)=some {cls:=c',data:=.seq us.toArray}):c=c'∧vs=us:=by
 have e1:=Option.some.inj e
 have e2:c=c':=congrArg Obj.cls e1
 have e3:Data.seq vs.toArray=Data.seq us.toArray:=congrArg Obj.data e1
 injection e3 with e4
 refine⟨e2,?_⟩
 have e5:=congrArg Array.toList e4
 simpa using e5
theorem MV (KX:K.In h) (ar:∀a∈A,ArgOb h A a) {a:Addr} {vs:List Value} (ha:a∈A) (e:h.get? a=some {cls:=.type "list",data:=.seq vs.toArray}):(∀u∈vs,OkU A u)∧SqL K (iI K h A) a (vs.map toV):=by
 obtain⟨us,h1,h2,h3⟩:=ar a ha
 have hu:us=vs:=by
  rcases h3 with q | q
  ·rw [e] at q
   exact(qG q).2.symm
  ·rw [e] at q
   exact absurd (Value.type.inj (qG q).1) (by decide)
 subst hu
 refine⟨h2,?_⟩
 cases hk:K.lookup a with
 | none=>exact .inl (.inr ⟨_,by rw [qU ha hk e,zA]⟩)
 | some o=>
  have e2:=KX a o hk
  rw [e] at e2
  obtain rfl:=Option.some.inj e2
  exact .inr ⟨_,us.toArray,_,hk,rfl,rfl,rfl,by rw [List.size_toArray]; exact h1,by simpa using iQ h2⟩
theorem MU (KX:K.In h) (ar:∀a∈A,ArgOb h A a) {a:Addr} {vs:List Value} (ha:a∈A) (e:h.get? a=some {cls:=.type "tuple",data:=.seq vs.toArray}):(∀u∈vs,OkU A u)∧SqT K (iI K h A) a (vs.map toV):=by
 obtain⟨us,h1,h2,h3⟩:=ar a ha
 have hu:us=vs:=by
  rcases h3 with q | q
  ·rw [e] at q
   exact absurd (Value.type.inj (qG q).1) (by decide)
  ·rw [e] at q
   exact(qG q).2.symm
 subst hu
 refine⟨h2,?_⟩
 cases hk:K.lookup a with
 | none=>exact .inl (.inr ⟨_,by rw [qU ha hk e,zy]⟩)
 | some o=>
  have e2:=KX a o hk
  rw [e] at e2
  obtain rfl:=Option.some.inj e2
  exact .inr ⟨_,us.toArray,_,hk,rfl,rfl,by rw [List.size_toArray]; exact h1,by simpa using iQ h2⟩
mutual
theorem KB {Pm:Params} (KX:K.In h) (ar:∀a∈A,ArgOb h A a):∀(d:WData) (v:Value),Well Pm h v d→plW d=true→OkU A v→Dw K (iI K h A) (toV v) d
 | .none,_,x,_,_=>by
  cases x
  exact .non
 | .bool b,_,x,_,_=>by
  cases x
  exact .bl b
 | .int i,_,x,_,_=>by
  cases x
  exact .int i
 | .str s,_,x,_,_=>by
  cases x
  exact .str s
 | .bytes b,_,x,_,_=>by
  cases x
  have z:=Dw.byt (K:=K) (H:=iI K h A) b.toArray
  exact z
 | .list ds,_,x,p,hu=>by
  obtain⟨a,vs,rfl,ho,hall⟩:=uV x
  obtain⟨h2,hs⟩:=MV KX ar hu ho
  exact .lst hs (xl KX ar ds _ hall p h2)
 | .tuple ds,_,x,p,hu=>by
  obtain⟨a,vs,rfl,ho,hall⟩:=qW x
  obtain⟨h2,hs⟩:=MU KX ar hu ho
  exact .tup hs (xl KX ar ds _ hall p h2)
 | .float _,_,_,p,_=>Bool.noConfusion (show false=true from p)
 | .dict _,_,_,p,_=>Bool.noConfusion (show false=true from p)
 | .bytearray _,_,_,p,_=>Bool.noConfusion (show false=true from p)
 | .set _,_,_,p,_=>Bool.noConfusion (show false=true from p)
 | .frozenset _,_,_,p,_=>Bool.noConfusion (show false=true from p)
 | .obj _ _,_,_,p,_=>Bool.noConfusion (show false=true from p)
theorem xl {Pm:Params} (KX:K.In h) (ar:∀a∈A,ArgOb h A a):∀(ds:List WData) (vs:List Value),WellAll Pm h vs ds→qe ds=true→(∀u∈vs,OkU A u)→jU K (iI K h A) (vs.map toV) ds
 | [],_,x,_,_=>by
  cases x
  exact .nil
 | d::ds,_,x,p,hu=>by
  obtain⟨v,vs,rfl,x1,x2⟩:=uW x
  have q:plW d=true∧qe ds=true:=Bool.and_eq_true_iff.mp p
  exact .cons (KB KX ar d v x1 q.1 (hu _ (List.mem_cons_self ..))) (xl KX ar ds vs x2 q.2 fun u m=>hu u (List.mem_cons_of_mem _ m))
end
end
theorem Eb {P:Program} {w:World} {K:PySem.W.Frag} {mg mb:Str→Option Value} {CX:CXT} {k:Nat} {fa:Addr} {fd:FuncData} {ps:List Str} {sp:Sp} {s₁:Shared} {vals:List Value} {ds:List WData} {R:PySem.W.WRecords} {cl:Str→Option Addr} {d0:WData}
  (KX:K.In s₁.heap) (hns:s₁.heap.Ns mainGlobals mg) (hb:s₁.heap.Ns builtinsNs mb) (hbb:∀x:Str,x≠"__name__"→mb x=bootBuiltins x) (hlim:s₁.heap.NoLimit) (hg:s₁.gens=#[])
  (hwl:WellAll w.params s₁.heap vals ds) (hpl:qe ds=true) (hwt:∀d∈ds,d.weight≤1048576) (hr:Room k callerA)
  (hse:s₁.heap.NoSeer) (F:∀base:Heap,base.NoSeer→K.In base→base.Ns mainGlobals mg→FnOk P w K mg base CX k fa fd ps sp) (hbind:∀(s:Shared) (us:List Value),us.length=ps.length→BindsTo s fd ⟨us,[]⟩ (ps.zip us)) (hlen:ds.length=ps.length)
  (hsp:∀(H:Hp) (xs:List V),As H→jU K H xs ds→sp xs H (fun v H'=>Dw K H' v d0) fun _ _ _=>False)
  (hCX:∀H e s',CX [] H s₁ (fun _ _ _=>False) e s'→False):
  codeAny (model P w) callerA (.call (.ref fa) ⟨vals,[]⟩) (fun r s'=>∃u as,r=.ok (.ret u)∧ReadsW R cl s'.heap u d0 as∧OldK s₁.heap s'.heap∧s'.os=s₁.os∧AllBare s'.gens) s₁:=by
 obtain⟨A,ho,ar⟩:=nY ds vals hwl hpl hwt
 have hO:As (iI K s₁.heap A):=Fe ar
 have hok:HOk P w (iI K s₁.heap A) s₁.heap:=Jb ar
 have hS:=xl KX ar ds vals hwl hpl ho
 have hV:=iQ ho
 have hK:∀b u,iI K s₁.heap A b=some u→K.lookup b=none:=fun b u q=>(nX ar q).1
 have noA:∀{b:Addr} {o:Obj} {es:Array DictEntry} {ep:Nat},s₁.heap.get? b=some o→o.data=.dict es ep→iI K s₁.heap A b=none:=fun {b o es ep} e d=>by
  cases q:iI K s₁.heap A b with
  | none=>rfl
  | some u=>
   obtain⟨_,vs,_,_,⟨e2,_⟩ | ⟨e2,_⟩⟩:=nX ar q
   ·rw [e2] at e
    cases e
    have d':Data.seq vs.toArray _=Data.dict es ep:=d
    cases d'
   ·rw [e2] at e
    cases e
    have d':Data.seq vs.toArray _=Data.dict es ep:=d
    cases d'
 have noM:∀{b:Addr} {o:Obj},s₁.heap.get? b=some o→o.cls=.type "module"→iI K s₁.heap A b=none:=fun {b o} e d=>by
  cases q:iI K s₁.heap A b with
  | none=>rfl
  | some u=>
   obtain⟨_,vs,_,_,⟨e2,_⟩ | ⟨e2,_⟩⟩:=nX ar q
   ·rw [e2] at e
    cases e
    injection d with d
    exact absurd d (by decide)
   ·rw [e2] at e
    cases e
    injection d with d
    exact absurd d (by decide)
 generalize iI K s₁.heap A=H at hO hok hS hK noA noM
 have base_of:∀{b:Addr} {o:Obj},s₁.heap.get? b=some o→H b=none→(uG s₁.heap H).get? b=some o:=fun e n=>Gy e n
 have nsK:∀{b:Addr} {m:Str→Option Value},s₁.heap.Ns b m→(uG s₁.heap H).Ns b m:=fun {b m} ⟨o,es,ep,e,d,r⟩=>⟨o,es,ep,base_of e (noA e d),d,r⟩
 have nK:∀b o,K.lookup b=some o→H b=none:=fun b o e=>by
  cases q:H b with
  | none=>rfl
  | some u=>
   rw [hK b u q] at e
   cases e
 have hKb:K.In (uG s₁.heap H):=fun b o e=>base_of (KX b o e) (nK b o e)
 have hM:Mod K mg (uG s₁.heap H):=⟨hKb,nsK hns,⟨mb,nsK hb,hbb⟩,let ⟨mc,h1,h2⟩:=hlim; ⟨mc,nsK h1,h2⟩⟩
 have e0:Env0 P w K mg (uG s₁.heap H) callerA [] s₁ H:=⟨rfl,hM,fun b o e=>Ii e,Nat.le_of_eq (EJ _ _),trivial,fun b hb=>absurd (show b∈([]:List Addr) from hb) (by simp),hok,.of_eq hg⟩
 have hl:vals.length=ps.length:=by rw [hX hwl]; exact hlen
 have hseB:(uG s₁.heap H).NoSeer:=⟨let ⟨mc,a,b⟩:=hse.statics; ⟨mc,nsK a,b⟩,let ⟨mc,a,b⟩:=hse.mods; ⟨mc,nsK a,b⟩,let ⟨mc,a,b⟩:=hse.imp; ⟨mc,nsK a,b⟩,let ⟨mg,bm,ob,a,b,c,d,e⟩:=hse.main; ⟨mg,bm,ob,nsK a,b,base_of c (noM c d),d,e⟩⟩
 refine codeAny_mono ((F _ hseB hKb (nsK hns)).run callerA [] s₁ H ⟨vals,[]⟩ vals (vals.map toV) _ _ hr e0 (hbind s₁ vals hl) hV (hsp H _ hO hS)) fun r s' x=>?_
 cases r with
 | error e=>exact(hCX H e s' x).elim
 | ok fl=>
  cases fl with
  | next=>exact False.elim x
  | brk=>exact False.elim x
  | cont=>exact False.elim x
  | ret u=>
   obtain⟨v,H',os,bare,un,hok',r',q⟩:=x
   have kept:∀b o,s₁.heap.get? b=some o→s'.heap.get? b=some o:=fun b o e=>by
    cases q2:H b with
    | none=>exact un.keep b o e q2 (by intro z; exact absurd (show b∈([]:List Addr) from z) (by simp)) (by simp)
    | some u2=>
     rcases hO b with z | ⟨ob,u3,z⟩
     ·rw [q2] at z
      cases z
     ·have z2:=un.frzs b ob _ z
      obtain⟨e1,_⟩:=hok b _ z
      obtain⟨e2,_⟩:=hok' b _ z2
      rw [e] at e1
      cases e1
      exact e2
   have KX':K.In s'.heap:=fun b o e=>kept b o (KX b o e)
   obtain⟨as,hrd⟩:=Dw.reads (R:=R) (cl:=cl) hok' KX' d0 v u q r'
   exact⟨u,as,rfl,hrd,OldK.of_keep kept,os,bare⟩
theorem sG {ds:List WData} (h:WData.layableAll ds=true):∀d∈ds,d.weight≤1048576:=fun d hd=>
 (PySem.W.layableW_iff.mp (List.all_eq_true.mp h d hd)).2.2
theorem sZ:∀(cs:List Codec) (a:Codec.denoteAll cs),(Codec.encAll cs a).length=cs.length
 | [],_=>rfl
 | c::cs,a=>by
  show(Codec.encAll cs a.2).length+1=cs.length+1
  rw [sZ cs a.2]
theorem DR {r:OpenSpec} {k:Nat} {q:Program} {loose:List Str} {XP:(Str→Option Value)→Heap→Prop} {YP:World→Heap→Prop} {d:DefRec} {K:Params→PySem.W.Frag} {CX:World→CXT} {ps:List Str} {sp:World→Sp}
  (hin:importsNone q=true) (hwell:r.wellSaid=true) (hdf:d.params.defaults=[]) (hlen:r.args.length=ps.length) (hr:Room k callerA)
  (hY:∀(w:World) (h:Heap),YP w h→(K w.params).In h)
  (F:∀(w:World) (mg:Str→Option Value) (fa:Addr) (h:Heap),YP w h→(K w.params).In h→h.Ns mainGlobals mg→mg d.name=some (.ref fa)→
   ∃fd:FuncData,(∀(s:Shared) (us:List Value),us.length=ps.length→BindsTo s fd ⟨us,[]⟩ (ps.zip us))∧
    ∀base:Heap,base.NoSeer→(K w.params).In base→base.Ns mainGlobals mg→FnOk r.prog w (K w.params) mg base (CX w) k fa fd ps (sp w))
  (hsp:∀(w:World) (H:Hp) (xs:List V) (a:Codec.denoteAll r.args),As H→Codec.withinAll r.args a=true→Codec.app r.args r.asked a=true→jU (K w.params) H xs (Codec.encAll r.args a)→
   sp w xs H (fun v H'=>Dw (K w.params) H' v (r.ret.enc (Codec.app r.args r.f a))) fun _ _ _=>False)
  (hCX:∀(w:World) (H:Hp) (s:Shared) (e:Value) (s':Shared),CX w [] H s (fun _ _ _=>False) e s'→False):
  PySem.W.WalkOS q loose XP YP r d [] (fun f vs=>PySem.call f vs):=by
 intro w s_0 s₁ mg mb G Y fa o pm cd doc dV kV ho hd hcd hD hmg hg args vals as hpre hlay hrd hwl hlo
 obtain⟨a,e1,e2⟩:=PySem.W.os_pre_some hpre
 obtain⟨e3,hwi⟩:=Codec.encAll_of_decAll r.args args a e1
 subst e3
 have KX:=hY w _ Y
 obtain⟨fd,hb,hF⟩:=F w mg fa _ Y KX G.T.g hmg
 refine PySem.W.enter_call (codeAny_mono (Eb (R:=[]) (cl:=classAt s_0.heap) (d0:=r.ret.enc (Codec.app r.args r.f a)) KX G.T.g G.T.b G.T.builtins G.T.nolimit hg hwl (vf _ _) (sG hlay) hr (G.T.seer hin) hF hb (by rw [sZ]; exact hlen)
  (fun H xs hO hS=>hsp w H xs a hO hwi e2 hS) fun H e s'=>hCX w H s₁ e s') fun r' s' hq=>?_)
 obtain⟨u,as',rfl,h1,h2,h3,h4⟩:=hq
 exact⟨.inl ⟨u,_,as',rfl,fun _=>rfl,h1,(OpenSpec.post_iff hwell hwi _ _).mpr rfl,fun z=>Bool.noConfusion (show false=true from z)⟩,h2,h3,h4⟩
theorem Ay {r:OpenSpec} {k:Nat} {q:Program} {loose:List Str} {XP:(Str→Option Value)→Heap→Prop} {YP:World→Heap→Prop} {d:DefRec} {K:Params→PySem.W.Frag} {CX:CXT} {ps:List Str} {sp:PySem.W.Frag→Sp}
  (hin:importsNone q=true) (hwell:r.wellSaid=true) (hdf:d.params.defaults=[]) (hlen:r.args.length=ps.length) (hr:Room k callerA)
  (hY:∀(w:World) (h:Heap),YP w h→(K w.params).In h)
  (F:∀(w:World) (mg:Str→Option Value) (fa:Addr) (h:Heap),YP w h→(K w.params).In h→h.Ns mainGlobals mg→mg d.name=some (.ref fa)→
   ∃fd:FuncData,(∀(s:Shared) (us:List Value),us.length=ps.length→BindsTo s fd ⟨us,[]⟩ (ps.zip us))∧
    ∀base:Heap,base.NoSeer→(K w.params).In base→base.Ns mainGlobals mg→FnOk r.prog w (K w.params) mg base CX k fa fd ps (sp (K w.params)))
  (hsp:∀(K:PySem.W.Frag) (H:Hp) (xs:List V) (a:Codec.denoteAll r.args),As H→Codec.withinAll r.args a=true→Codec.app r.args r.asked a=true→jU K H xs (Codec.encAll r.args a)→
   sp K xs H (fun v H'=>Dw K H' v (r.ret.enc (Codec.app r.args r.f a))) fun _ _ _=>False)
  (hCX:∀(H:Hp) (s:Shared) (e:Value) (s':Shared),CX [] H s (fun _ _ _=>False) e s'→False):
  PySem.W.WalkOS q loose XP YP r d [] (fun f vs=>PySem.call f vs):=
 DR (K:=K) (CX:=fun _=>CX) (sp:=fun w=>sp (K w.params)) hin hwell hdf hlen hr hY F (fun w H xs a h1 h2 h3 h4=>hsp (K w.params) H xs a h1 h2 h3 h4) fun _ H s e s'=>hCX H s e s'
end L2
end
namespace BM
open Vagraa (Frac)
noncomputable def aB (q:Rat):Frac:=⟨q.num,q.den⟩
theorem i6 (n:Int) (d:Nat):Vagraa.frac n d=aB (mkRat n d):=by
 unfold Vagraa.frac aB
 rw [Rat.num_mkRat,Rat.den_mkRat]
 by_cases h:d=0
 ·simp [h]
 ·simp only [if_neg h]
  rw [Nat.gcd_comm d n.natAbs]
theorem nZ (p q:Rat):Vagraa.add (aB p) (aB q)=aB (p+q):=by
 rw [Rat.add_def',←i6]; rfl
theorem nG (p q:Rat):Vagraa.mul (aB p) (aB q)=aB (p*q):=by
 rw [Rat.mul_def',←i6]; rfl
theorem wN (p:Rat):Vagraa.neg (aB p)=aB (-p):=rfl
theorem vX (p q:Rat):Vagraa.sub (aB p) (aB q)=aB (p - q):=by
 unfold Vagraa.sub
 rw [wN,nZ,Rat.sub_eq_add_neg]
theorem Iz (p:Rat):Vagraa.inv (aB p)=aB p⁻¹:=by
 unfold Vagraa.inv aB
 rw [Rat.num_inv,Rat.den_inv]
 show(if p.num < 0 then(⟨-(p.den:Int),p.num.natAbs⟩:Frac) else if p.num=0 then Vagraa.zero else⟨p.den,p.num.natAbs⟩)=_
 by_cases h:p.num < 0
 ·rw [if_pos h,if_neg (by omega),Int.sign_eq_neg_one_of_neg h]
  simp
 ·rw [if_neg h]
  by_cases h0:p.num=0
  ·rw [if_pos h0,if_pos h0,h0]; simp; rfl
  ·rw [if_neg h0,if_neg h0,Int.sign_eq_one_of_pos (by omega)]
   simp
theorem DD (p q:Rat):Vagraa.div (aB p) (aB q)=aB (p / q):=by
 unfold Vagraa.div
 rw [Iz,nG,Rat.div_def]
theorem Fx:Vagraa.zero=aB 0:=rfl
theorem BO (p:Rat):Vagraa.isZero (aB p)=decide (p=0):=by
 unfold Vagraa.isZero aB
 by_cases h:p=0
 ·subst h; rfl
 ·have h':p.num≠0:=fun e=>h (Rat.num_eq_zero.mp e)
  rw [decide_eq_false h,decide_eq_false h']
theorem dw (vs:List Rat) (i:Nat):VagraLine.at_ (vs.map aB) i=aB (vs.getD i 0):=by
 unfold VagraLine.at_
 rw [List.getD_eq_getElem?_getD,List.getD_eq_getElem?_getD,List.getElem?_map]
 cases vs[i]? <;> rfl
theorem md (q:Rat):mkRat q.num q.den=q:=Rat.mkRat_self q
theorem gV (n:Int) (d:Nat) (h:d≠0):(mkRat n d).num=n / (Nat.gcd n.natAbs d:Nat)∧(mkRat n d).den=d / Nat.gcd n.natAbs d:=by
 have e:=i6 n d
 unfold Vagraa.frac at e
 rw [if_neg h] at e
 exact⟨(congrArg Frac.num e).symm,(congrArg Frac.den e).symm⟩
open VagraLine (Line Code)
noncomputable def Rv (inputs vs:List Rat):Line→Option Rat
 | .input k=>some (inputs.getD k 0)
 | .num a=>some (mkRat a.num a.den)
 | .add i j=>some (vs.getD i 0+vs.getD j 0)
 | .sub i j=>some (vs.getD i 0 - vs.getD j 0)
 | .mul i j=>some (vs.getD i 0*vs.getD j 0)
 | .div i j=>if vs.getD j 0=0 then none else some (vs.getD i 0 / vs.getD j 0)
 | .neg i=>some (-vs.getD i 0)
noncomputable def Low:Line→Prop
 | .num a=>∃q,a=aB q
 | _=>True
theorem DS (inputs vs:List Rat):∀l:Line,Low l→l.value (inputs.map aB) (vs.map aB)=(Rv inputs vs l).map aB
 | .input k,_=>by simp [Line.value,Rv,dw]
 | .num a,h=>by
  obtain⟨q,rfl⟩:=h
  show some (aB q)=some (aB (mkRat q.num q.den))
  rw [md]
 | .add i j,_=>by simp [Line.value,Rv,dw,nZ]
 | .sub i j,_=>by simp [Line.value,Rv,dw,vX]
 | .mul i j,_=>by simp [Line.value,Rv,dw,nG]
 | .div i j,_=>by
  simp only [Line.value,Rv,dw,BO,DD]
  by_cases h:vs.getD j 0=0
  ·rw [decide_eq_true h,if_pos rfl,if_pos h]; rfl
  ·rw [decide_eq_false h,if_neg Bool.false_ne_true,if_neg h]; rfl
 | .neg i,_=>by simp [Line.value,Rv,dw,wN]
noncomputable def wt (q:Rat):Nat:=Vagraa.weight (aB q)
noncomputable def gE (heavy:Option Nat) (inputs:List Rat):List Rat→Code→Except VagraLine.Fault (List Rat)
 | vs,[]=>.ok vs
 | vs,l::r=>match Rv inputs vs l with
  | none=>.error ⟨vs.length,1⟩
  | some a=>if (match heavy with
    | some h=>decide (h < wt a)
    | none=>false)=true then .error ⟨vs.length,2⟩ else gE heavy inputs (vs++[a]) r
noncomputable def JI {α β ε:Type} (f:α→β):Except ε α→Except ε β
 | .ok a=>.ok (f a)
 | .error e=>.error e
theorem ww (heavy:Option Nat) (inputs:List Rat):∀(c:Code) (vs:List Rat),(∀l∈c,Low l)→VagraLine.runFrom heavy (inputs.map aB) (vs.map aB) c=JI (List.map aB) (gE heavy inputs vs c)
 | [],vs,_=>rfl
 | l::r,vs,h=>by
  unfold VagraLine.runFrom gE
  rw [DS inputs vs l (h l (List.mem_cons_self ..))]
  cases Rv inputs vs l with
  | none=>simp [JI]
  | some a=>
   simp only [Option.map_some,List.length_map]
   show(if (match heavy with | some h=>decide (h < wt a) | none=>false)=true then Except.error _ else _)=_
   by_cases hh:(match heavy with | some h=>decide (h < wt a) | none=>false)=true
   ·rw [if_pos hh,if_pos hh]; rfl
   ·rw [if_neg hh,if_neg hh]
    have e:List.map aB vs++[aB a]=List.map aB (vs++[a]):=by simp
    rw [e]
    exact ww heavy inputs r (vs++[a]) fun x hx=>h x (List.mem_cons_of_mem _ hx)
noncomputable def Rc (dir vs ds:List Rat) (v:Rat):Line→Rat
 | .input k=>dir.getD k 0
 | .num _=>0
 | .add i j=>ds.getD i 0+ds.getD j 0
 | .sub i j=>ds.getD i 0 - ds.getD j 0
 | .mul i j=>ds.getD i 0*vs.getD j 0+vs.getD i 0*ds.getD j 0
 | .div i j=>(ds.getD i 0 - v*ds.getD j 0) / vs.getD j 0
 | .neg i=>-ds.getD i 0
theorem Ci (dir vs ds:List Rat) (v:Rat):∀l:Line,Vagrae.Line.change (dir.map aB) (vs.map aB) (ds.map aB) (aB v) l=aB (Rc dir vs ds v l)
 | .input k=>by simp [Vagrae.Line.change,Rc,dw]
 | .num a=>rfl
 | .add i j=>by simp [Vagrae.Line.change,Rc,dw,nZ]
 | .sub i j=>by simp [Vagrae.Line.change,Rc,dw,vX]
 | .mul i j=>by simp [Vagrae.Line.change,Rc,dw,nG,nZ]
 | .div i j=>by simp [Vagrae.Line.change,Rc,dw,nG,vX,DD]
 | .neg i=>by simp [Vagrae.Line.change,Rc,dw,wN]
noncomputable def Rcs (dir vs:List Rat):List Rat→Code→List Rat
 | ds,[]=>ds
 | ds,l::r=>Rcs dir vs (ds++[Rc dir vs ds (vs.getD ds.length 0) l]) r
theorem kX (dir vs:List Rat):∀(c:Code) (ds:List Rat),Vagrae.changesFrom (dir.map aB) (vs.map aB) (ds.map aB) c=(Rcs dir vs ds c).map aB
 | [],ds=>rfl
 | l::r,ds=>by
  unfold Vagrae.changesFrom Rcs
  rw [List.length_map,dw,Ci]
  have e:List.map aB ds++[aB (Rc dir vs ds (vs.getD ds.length 0) l)]=List.map aB (ds++[Rc dir vs ds (vs.getD ds.length 0) l]):=by simp
  rw [e]
  exact kX dir vs r _
end BM
namespace BM
open Vagraa (Frac)
open VagraLine (Line Code)
open Vagrag (Chain)
noncomputable def eB:List Rat→Rat
 | []=>0
 | x::r=>x+eB r
theorem EO (l:List Rat):∀z:Rat,(l.map aB).foldl Vagraa.add (aB z)=aB (z+eB l):=by
 induction l with
 | nil=>intro z; simp [eB]; rw [Rat.add_zero]
 | cons x r ih=>
  intro z
  rw [List.map_cons,List.foldl_cons,nZ,ih]
  show _=aB (z+(x+eB r))
  rw [Rat.add_assoc]
theorem HG (l:List Rat):Vagrae.sum (l.map aB)=aB (eB l):=by
 unfold Vagrae.sum
 rw [Fx,EO,Rat.zero_add]
noncomputable def eI (n k:Nat):List Rat:=(List.range n).map fun i=>if i=k then 1 else 0
theorem FB (n k:Nat):Vagrae.unit n k=(eI n k).map aB:=by
 unfold Vagrae.unit eI
 rw [List.map_map]
 refine List.map_congr_left fun i _=>?_
 show(if i=k then Vagraa.one else Vagraa.zero)=aB (if i=k then 1 else 0)
 by_cases h:i=k
 ·rw [if_pos h,if_pos h]; rfl
 ·rw [if_neg h,if_neg h]; rfl
noncomputable def jac (code:Code) (outs:List Nat) (size:Nat) (vs:List Rat) (o k:Nat):Rat:=(Rcs (eI (size+1) k) vs [] code).getD (outs.getD o 0) 0
noncomputable def fS (code:Code) (outs:List Nat) (size:Nat) (vs y:List Rat):List Rat:=
 (List.range size).map fun k=>eB ((List.range size).map fun o=>y.getD o 0*jac code outs size vs o k)
noncomputable def fT (code:Code) (outs:List Nat) (vs d:List Rat):List Rat:=
 outs.map fun o=>(Rcs (d++[0]) vs [] code).getD o 0
theorem rb (c:Chain) (i:Nat) (x:List Frac) (vs y:List Rat) (hv:c.values i x=vs.map aB):
  c.turned i x (y.map aB)=(fS c.code c.outs c.size vs y).map aB:=by
 unfold Chain.turned fS
 rw [List.map_map]
 refine List.map_congr_left fun k _=>?_
 show Vagrae.sum _=aB (eB _)
 rw [←HG,List.map_map]
 refine congrArg Vagrae.sum (List.map_congr_left fun o _=>?_)
 show Vagraa.mul (VagraLine.at_ (y.map aB) o) (VagraLine.at_ (Vagrae.changes _ _ _) _)=aB (y.getD o 0*jac _ _ _ _ o k)
 unfold Vagrae.changes
 rw [hv,FB]
 have e:=kX (eI (c.size+1) k) vs c.code []
 rw [List.map_nil] at e
 rw [e,dw,dw,nG]
 rfl
theorem Bm (c:Chain) (i:Nat) (x:List Frac) (vs d:List Rat) (hv:c.values i x=vs.map aB):
  c.pushed i x (d.map aB)=(fT c.code c.outs vs d).map aB:=by
 unfold Chain.pushed fT
 rw [List.map_map]
 refine List.map_congr_left fun o _=>?_
 unfold Vagrae.changes
 have e0:d.map aB++[Vagraa.zero]=(d++[0]).map aB:=by rw [List.map_append]; rfl
 have e:=kX (d++[0]) vs c.code []
 rw [List.map_nil] at e
 show VagraLine.at_ (Vagrae.changesFrom _ (c.values i x) [] c.code) o=_
 rw [hv,e0,e,dw]
 rfl
noncomputable def lin (size:Nat) (d:List Rat) (f:Nat→Rat):Rat:=eB ((List.range size).map fun k=>d.getD k 0*f k)
theorem ik (a b:List Rat):eB (a++b)=eB a+eB b:=by
 induction a with
 | nil=>simp [eB,Rat.zero_add]
 | cons x r ih=>
  show x+eB (r++b)=x+eB r+eB b
  rw [ih,Rat.add_assoc]
theorem wV (size:Nat) (d:List Rat) (f g:Nat→Rat):lin size d (fun k=>f k+g k)=lin size d f+lin size d g:=by
 unfold lin
 induction size with
 | zero=>simp [eB,Rat.add_zero]
 | succ n ih=>
  simp only [List.range_succ,List.map_append,ik,ih,List.map_cons,List.map_nil,eB]
  grind
theorem lI (size:Nat) (d:List Rat) (f:Nat→Rat) (c:Rat):lin size d (fun k=>f k*c)=lin size d f*c:=by
 unfold lin
 induction size with
 | zero=>simp [eB]
 | succ n ih=>
  simp only [List.range_succ,List.map_append,ik,ih,List.map_cons,List.map_nil,eB]
  grind
theorem sE (size:Nat) (d:List Rat):lin size d (fun _=>0)=0:=by
 unfold lin
 induction size with
 | zero=>simp [eB]
 | succ n ih=>
  simp only [List.range_succ,List.map_append,ik,ih,List.map_cons,List.map_nil,eB]
  grind
theorem dC {size:Nat} {d:List Rat} {f g:Nat→Rat} (h:∀k,k < size→f k=g k):lin size d f=lin size d g:=by
 unfold lin
 exact congrArg eB (List.map_congr_left fun k hk=>by rw [h k (List.mem_range.mp hk)])
theorem Dd (size:Nat) (d:List Rat) (f g:Nat→Rat):lin size d (fun k=>f k - g k)=lin size d f - lin size d g:=by
 have e:lin size d (fun k=>f k - g k)=lin size d (fun k=>f k+g k*(-1)):=dC fun k _=>by grind
 rw [e,wV,lI]; grind
theorem Iu (size:Nat) (d:List Rat) (f:Nat→Rat):lin size d (fun k=>-f k)=-lin size d f:=by
 have e:lin size d (fun k=>-f k)=lin size d (fun k=>f k*(-1)):=dC fun k _=>by grind
 rw [e,lI]; grind
theorem zu:∀(size:Nat) (d:List Rat) (j:Nat),lin size d (fun k=>if j=k then 1 else 0)=if j < size then d.getD j 0 else 0
 | 0,d,j=>by simp [lin,eB]
 | n+1,d,j=>by
  have ih:=zu n d j
  unfold lin at ih⊢
  simp only [List.range_succ,List.map_append,ik,ih,List.map_cons,List.map_nil,eB]
  by_cases h:j < n
  ·rw [if_pos h,if_neg (by omega),if_pos (by omega)]; grind
  ·rw [if_neg h]
   by_cases h2:j=n
   ·subst h2; rw [if_pos rfl,if_pos (by omega)]; grind
   ·rw [if_neg h2,if_neg (by omega)]; grind
theorem rQ (n k j:Nat):(eI n k).getD j 0=if j < n∧j=k then 1 else 0:=by
 unfold eI
 rw [List.getD_eq_getElem?_getD,List.getElem?_map]
 by_cases h:j < n
 ·rw [List.getElem?_range h]
  by_cases h2:j=k
  ·rw [if_pos ⟨h,h2⟩]; show(if j=k then(1:Rat) else 0)=1; rw [if_pos h2]
  ·rw [if_neg (fun q=>h2 q.2)]; show(if j=k then(1:Rat) else 0)=0; rw [if_neg h2]
 ·rw [List.getElem?_eq_none (by simpa using h)]
  simp [h]
theorem KR (size:Nat) (d vs:List Rat) (hd:d.length=size) (ds:List Rat) (dk:Nat→List Rat) (v:Rat) (h:∀i,ds.getD i 0=lin size d fun k=>(dk k).getD i 0):
  ∀l:Line,Rc (d++[0]) vs ds v l=lin size d fun k=>Rc (eI (size+1) k) vs (dk k) v l
 | .input j=>by
  show(d++[0]).getD j 0=lin size d fun k=>(eI (size+1) k).getD j 0
  have e:(lin size d fun k=>(eI (size+1) k).getD j 0)=lin size d fun k=>if j=k then 1 else 0:=dC fun k hk=>by
   rw [rQ]
   by_cases h2:j=k
   ·rw [if_pos ⟨by omega,h2⟩,if_pos h2]
   ·rw [if_neg (fun q=>h2 q.2),if_neg h2]
  rw [e,zu,List.getD_eq_getElem?_getD]
  by_cases h2:j < size
  ·rw [if_pos h2,List.getElem?_append_left (by omega),List.getD_eq_getElem?_getD]
  ·rw [if_neg h2,List.getElem?_append_right (by omega)]
   cases q:j - d.length with
   | zero=>rfl
   | succ m=>simp
 | .num a=>by
  show(0:Rat)=lin size d fun k=>0
  rw [sE]
 | .add i j=>by
  show ds.getD i 0+ds.getD j 0=lin size d fun k=>(dk k).getD i 0+(dk k).getD j 0
  rw [h,h,wV]
 | .sub i j=>by
  show ds.getD i 0 - ds.getD j 0=lin size d fun k=>(dk k).getD i 0 - (dk k).getD j 0
  rw [h,h,Dd]
 | .mul i j=>by
  show ds.getD i 0*vs.getD j 0+vs.getD i 0*ds.getD j 0=lin size d fun k=>(dk k).getD i 0*vs.getD j 0+vs.getD i 0*(dk k).getD j 0
  have e:(lin size d fun k=>(dk k).getD i 0*vs.getD j 0+vs.getD i 0*(dk k).getD j 0)=lin size d fun k=>(dk k).getD i 0*vs.getD j 0+(dk k).getD j 0*vs.getD i 0:=dC fun k _=>by rw [Rat.mul_comm (vs.getD i 0)]
  rw [e,wV,lI,lI,h,h,Rat.mul_comm (vs.getD i 0)]
 | .div i j=>by
  show(ds.getD i 0 - v*ds.getD j 0) / vs.getD j 0=lin size d fun k=>((dk k).getD i 0 - v*(dk k).getD j 0) / vs.getD j 0
  have e:(lin size d fun k=>((dk k).getD i 0 - v*(dk k).getD j 0) / vs.getD j 0)=lin size d fun k=>((dk k).getD i 0 - (dk k).getD j 0*v)*(vs.getD j 0)⁻¹:=dC fun k _=>by rw [Rat.div_def,Rat.mul_comm v]
  rw [e,lI,Dd,lI,h,h,Rat.div_def,Rat.mul_comm v]
 | .neg i=>by
  show -ds.getD i 0=lin size d fun k=>-(dk k).getD i 0
  rw [h,Iu]
theorem DO (size:Nat) (d vs:List Rat) (hd:d.length=size):∀(c:Code) (ds:List Rat) (dk:Nat→List Rat),(∀k,(dk k).length=ds.length)→(∀i,ds.getD i 0=lin size d fun k=>(dk k).getD i 0)→
  ∀i,(Rcs (d++[0]) vs ds c).getD i 0=lin size d fun k=>(Rcs (eI (size+1) k) vs (dk k) c).getD i 0
 | [],ds,dk,_,h=>h
 | l::r,ds,dk,hl,h=>by
  have e:∀k,Rcs (eI (size+1) k) vs (dk k) (l::r)=Rcs (eI (size+1) k) vs (dk k++[Rc (eI (size+1) k) vs (dk k) (vs.getD ds.length 0) l]) r:=fun k=>by
   show Rcs _ _ (dk k++[Rc _ _ (dk k) (vs.getD (dk k).length 0) l]) r=_
   rw [hl k]
  intro i
  show(Rcs (d++[0]) vs (ds++[Rc (d++[0]) vs ds (vs.getD ds.length 0) l]) r).getD i 0=_
  rw [dC fun k _=>congrArg (fun z=>List.getD z i 0) (e k)]
  refine DO size d vs hd r _ (fun k=>dk k++[Rc (eI (size+1) k) vs (dk k) (vs.getD ds.length 0) l]) (fun k=>by simp [hl k]) (fun j=>?_) i
  rw [List.getD_eq_getElem?_getD]
  by_cases hj:j < ds.length
  ·rw [List.getElem?_append_left hj,←List.getD_eq_getElem?_getD,h j]
   refine dC fun k _=>?_
   rw [List.getD_eq_getElem?_getD,List.getD_eq_getElem?_getD,List.getElem?_append_left (by rw [hl k]; exact hj)]
  ·rw [List.getElem?_append_right (by omega)]
   by_cases hj2:j - ds.length=0
   ·rw [hj2]
    show Rc (d++[0]) vs ds (vs.getD ds.length 0) l=_
    rw [KR size d vs hd ds dk _ h l]
    refine dC fun k _=>?_
    rw [List.getD_eq_getElem?_getD (l:=dk k++_),List.getElem?_append_right (by rw [hl k]; omega),hl k,hj2]
    rfl
   ·obtain⟨m,hm⟩:∃m,j - ds.length=m+1:=⟨j - ds.length - 1,by omega⟩
    rw [hm]
    show(0:Rat)=_
    refine(sE size d).symm.trans (dC fun k _=>?_)
    rw [List.getD_eq_getElem?_getD (l:=dk k++_),List.getElem?_append_right (by rw [hl k]; omega),hl k,hm]
    rfl
theorem yU (code:Code) (outs:List Nat) (size:Nat) (vs d:List Rat) (hd:d.length=size) (ho:outs.length=size):
  fT code outs vs d=(List.range size).map fun o=>eB ((List.range size).map fun k=>d.getD k 0*jac code outs size vs o k):=by
 unfold fT
 refine List.ext_getElem? fun o=>?_
 rw [List.getElem?_map,List.getElem?_map]
 by_cases h:o < size
 ·rw [List.getElem?_range h,List.getElem?_eq_getElem (by omega)]
  refine congrArg some ?_
  have e:=DO size d vs hd code [] (fun _=>[]) (fun _=>rfl) (fun i=>by
   show(0:Rat)=lin size d fun k=>0
   rw [sE]) outs[o]
  refine e.trans ?_
  have e2:outs.getD o 0=outs[o]:=by rw [List.getD_eq_getElem?_getD,List.getElem?_eq_getElem (by omega)]; rfl
  show _=eB ((List.range size).map fun k=>d.getD k 0*(Rcs (eI (size+1) k) vs [] code).getD (outs.getD o 0) 0)
  rw [e2]
  rfl
 ·rw [List.getElem?_eq_none (by omega),List.getElem?_eq_none (by simp; omega)]
  rfl
end BM
namespace BM
open Vagraa (Frac)
noncomputable def ratsOf:List Int→Option (List Rat)
 | []=>some []
 | n::d::r=>if d < 1 then none else(ratsOf r).map fun l=>mkRat n d.toNat::l
 | _=>none
theorem zF (l:List Int):VagraLine.fracsOf l=(ratsOf l).map (List.map aB):=by
 induction l using ratsOf.induct with
 | case1=>rfl
 | case2 n d r h=>
  unfold VagraLine.fracsOf ratsOf
  rw [if_pos h,if_pos h]; rfl
 | case3 n d r h ih=>
  unfold VagraLine.fracsOf ratsOf
  rw [if_neg h,if_neg h,ih]
  cases ratsOf r with
  | none=>rfl
  | some q=>show some (Vagraa.frac n d.toNat::_)=some (aB (mkRat n d.toNat)::_); rw [i6]
 | case4 l h1 h2=>
  match l,h1,h2 with
  | [],h1,_=>exact absurd rfl h1
  | [n],_,_=>rfl
  | n::d::r,_,h2=>exact absurd rfl (h2 n d r)
theorem rV (n d:Int) (r:List Int) (a:List Int):∀qs,ratsOf a=some qs→ratsOf (a++n::d::r)=if d < 1 then none else(ratsOf r).map fun l=>qs++mkRat n d.toNat::l:=by
 induction a using ratsOf.induct with
 | case1=>
  intro qs h
  have e:[]=qs:=Option.some.inj h
  subst e
  rw [List.nil_append]
  conv=>lhs; unfold ratsOf
  rfl
 | case2 m e s h=>
  intro qs h'
  unfold ratsOf at h'
  rw [if_pos h] at h'; cases h'
 | case3 m e s h ih=>
  intro qs h'
  unfold ratsOf at h'
  rw [if_neg h] at h'
  cases z:ratsOf s with
  | none=>rw [z] at h'; cases h'
  | some q=>
   rw [z] at h'
   have h':=Option.some.inj h'
   subst h'
   show ratsOf (m::e::(s++n::d::r))=_
   conv=>lhs; unfold ratsOf
   rw [if_neg h,ih q z]
   by_cases hd:d < 1
   ·rw [if_pos hd,if_pos hd]; rfl
   ·rw [if_neg hd,if_neg hd]
    cases ratsOf r <;> rfl
 | case4 l h1 h2=>
  intro qs h
  match l,h1,h2,h with
  | [],h1,_,_=>exact absurd rfl h1
  | [n],_,_,h=>cases h
  | n::d::r,_,h2,_=>exact absurd rfl (h2 n d r)
theorem Bk (l:List Int):∀qs,ratsOf l=some qs→l.length=2*qs.length:=by
 induction l using ratsOf.induct with
 | case1=>
  intro qs h
  have e:[]=qs:=Option.some.inj h
  subst e; rfl
 | case2 m e s h=>
  intro qs h'
  unfold ratsOf at h'
  rw [if_pos h] at h'; cases h'
 | case3 m e s h ih=>
  intro qs h'
  unfold ratsOf at h'
  rw [if_neg h] at h'
  cases z:ratsOf s with
  | none=>rw [z] at h'; cases h'
  | some q=>
   rw [z] at h'
   have h':=Option.some.inj h'
   subst h'
   have:=ih q z
   simp only [List.length_cons]
   omega
 | case4 l h1 h2=>
  intro qs h
  match l,h1,h2,h with
  | [],h1,_,_=>exact absurd rfl h1
  | [n],_,_,h=>cases h
  | n::d::r,_,h2,_=>exact absurd rfl (h2 n d r)
theorem JT {l:List Int} {i:Nat} {n d:Int} (h0:l[i]?= some n) (h1:l[i+1]?= some d):l=l.take i++n::d::l.drop (i+2):=by
 obtain⟨a,e⟩:=List.getElem?_eq_some_iff.mp h0
 obtain⟨b,f⟩:=List.getElem?_eq_some_iff.mp h1
 conv=>lhs; rw [←List.take_append_drop i l]
 rw [List.drop_eq_getElem_cons a,List.drop_eq_getElem_cons b,e,f]
noncomputable def rdF (ns:List Int) (c:Nat):Option (List Rat):=(ratsOf ns).bind fun fs=>if fs.length=c then some fs else none
theorem o4 (ns:List Int) (c:Nat):Vagrag.fracs c ns=match rdF ns c with
  | some qs=>.ok (qs.map aB)
  | none=>.error (-2):=by
 unfold Vagrag.fracs rdF
 rw [zF]
 cases ratsOf ns with
 | none=>rfl
 | some qs=>
  show(if (qs.map aB).length=c then _ else _)=_
  rw [List.length_map]
  show _=match (if qs.length=c then some qs else none) with | some qs=>_ | none=>_
  by_cases h:qs.length=c
  ·rw [if_pos h,if_pos h]
  ·rw [if_neg h,if_neg h]
theorem lC {ns:List Int} {c:Nat} {qs:List Rat} (h:rdF ns c=some qs):qs.length=c:=by
 unfold rdF at h
 cases e:ratsOf ns with
 | none=>rw [e] at h; cases h
 | some q=>
  rw [e] at h
  have h:(if q.length=c then some q else none)=some qs:=h
  by_cases z:q.length=c
  ·rw [if_pos z] at h; cases h; exact z
  ·rw [if_neg z] at h; cases h
noncomputable def es (a b:Nat):Nat:=if h:b=0 then 0 else es b (a % b)+1
termination_by b
decreasing_by exact Nat.mod_lt _ (Nat.pos_of_ne_zero h)
theorem qS (a:Nat):es a 0=0:=by unfold es; rw [dif_pos rfl]
theorem sY {a b:Nat} (h:b≠0):es a b=es b (a % b)+1:=by conv=>lhs; unfold es; rw [dif_neg h]
theorem Kz (g:Nat) (hg:0 < g):∀(b a:Nat),es (g*a) (g*b)=es a b:=fun b=>by
 induction b using Nat.strongRecOn with
 | _ b ih=>
  intro a
  by_cases h:b=0
  ·subst h; rw [Nat.mul_zero,qS,qS]
  ·have h':g*b≠0:=Nat.mul_ne_zero (by omega) h
   rw [sY h,sY h',Nat.mul_mod_mul_left,ih (a % b) (Nat.mod_lt _ (Nat.pos_of_ne_zero h))]
theorem Fd {a b:Nat} (h:2*a < b):Vagraa.bits a+1≤Vagraa.bits b:=by
 unfold Vagraa.bits
 rw [if_neg (by omega:¬b=0)]
 by_cases h0:a=0
 ·rw [if_pos h0]; omega
 ·rw [if_neg h0]
  have h1:a.log2+1≤b.log2:=by
   have e:(2*a).log2=a.log2+1:=Nat.log2_two_mul h0
   rw [←e]
   have h2:2 ^ (2*a).log2≤2*a:=Nat.log2_self_le (by omega)
   exact(Nat.le_log2 (by omega)).mpr (by omega)
  omega
theorem G4 {b:Nat} (h:b≠0):1≤Vagraa.bits b:=by
 unfold Vagraa.bits
 rw [if_neg h]; omega
theorem LU:∀(b a:Nat),es a b≤2*Vagraa.bits b:=fun b=>by
 induction b using Nat.strongRecOn with
 | _ b ih=>
  intro a
  by_cases h:b=0
  ·subst h; rw [qS]; exact Nat.zero_le _
  ·rw [sY h]
   by_cases h2:a % b=0
   ·rw [h2,qS]
    have:=G4 h
    omega
   ·rw [sY h2]
    have l1:=Nat.mod_lt a (Nat.pos_of_ne_zero h)
    have l2:=Nat.mod_lt b (Nat.pos_of_ne_zero h2)
    have l3:2*(b % (a % b)) < b:=by
     have e:=Nat.div_add_mod b (a % b)
     have q:1≤b / (a % b):=(Nat.one_le_div_iff (Nat.pos_of_ne_zero h2)).mpr (by omega)
     have q2:(a % b)*1≤(a % b)*(b / (a % b)):=Nat.mul_le_mul_left _ q
     omega
    have i1:=ih (b % (a % b)) (by omega) (a % b)
    have i2:=Fd l3
    omega
theorem LT {n:Int} {d:Nat} (hd:d≠0):es n.natAbs d≤2*wt (mkRat n d):=by
 obtain⟨h1,h2⟩:=gV n d hd
 have hg:0 < Nat.gcd n.natAbs d:=Nat.gcd_pos_of_pos_right _ (by omega)
 obtain⟨x,hx⟩:Nat.gcd n.natAbs d∣n.natAbs:=Nat.gcd_dvd_left ..
 obtain⟨y,hy⟩:Nat.gcd n.natAbs d∣d:=Nat.gcd_dvd_right ..
 have ey:(mkRat n d).den=y:=by rw [h2]; exact Nat.div_eq_of_eq_mul_right hg hy
 have e:es n.natAbs d=es x y:=by
  have:=Kz (Nat.gcd n.natAbs d) hg y x
  rw [←hx,←hy] at this
  exact this
 rw [e]
 have:=LU y x
 have l:Vagraa.bits y≤wt (mkRat n d):=by
  show _≤Vagraa.bits _+Vagraa.bits (mkRat n d).den
  rw [ey]; omega
 omega
end BM
namespace BM
open Vagraa (Frac)
open VagraLine (Line Code)
noncomputable def fj (k:Int):Nat:=if k=0∨k=6 then 2 else 3
theorem lJ (k:Int):2≤fj k:=by unfold fj; split <;> omega
noncomputable def wfl:List Int→Bool
 | [a,b]=>if a=0 then decide (0≤b) else if a=6 then decide (0≤b) else false
 | [a,b,c]=>if a=1 then decide (1≤c) else if a=2 then decide (0≤b) && decide (0≤c) else if a=3 then decide (0≤b) && decide (0≤c) else if a=4 then decide (0≤b) && decide (0≤c) else if a=5 then decide (0≤b) && decide (0≤c) else false
 | _=>false
noncomputable def aU:List Int→Line
 | [0,k]=>.input k.toNat
 | [1,n,d]=>.num (Vagraa.frac n d.toNat)
 | [2,i,j]=>.add i.toNat j.toNat
 | [3,i,j]=>.sub i.toNat j.toNat
 | [4,i,j]=>.mul i.toNat j.toNat
 | [5,i,j]=>.div i.toNat j.toNat
 | [6,i]=>.neg i.toNat
 | _=>.input 0
inductive Wf:List Int→Prop
 | input (k:Int) (h:0≤k):Wf [0,k]
 | num (n d:Int) (h:1≤d):Wf [1,n,d]
 | add (i j:Int) (h:0≤i) (h':0≤j):Wf [2,i,j]
 | sub (i j:Int) (h:0≤i) (h':0≤j):Wf [3,i,j]
 | mul (i j:Int) (h:0≤i) (h':0≤j):Wf [4,i,j]
 | div (i j:Int) (h:0≤i) (h':0≤j):Wf [5,i,j]
 | neg (i:Int) (h:0≤i):Wf [6,i]
theorem mL {c:Prop} [Decidable c] {x e:Bool} {P:Prop} (h:(if c then x else e)=true) (h1:c→x=true→P) (h2:e=true→P):P:=by
 by_cases q:c
 ·rw [if_pos q] at h; exact h1 q h
 ·rw [if_neg q] at h; exact h2 h
theorem je {x y:Prop} [Decidable x] [Decidable y] (h:(decide x && decide y)=true):x∧y:=⟨of_decide_eq_true ((Bool.and_eq_true _ _).mp h).1,of_decide_eq_true ((Bool.and_eq_true _ _).mp h).2⟩
theorem Jm:∀{l:List Int},wfl l=true→Wf l
 | [a,b],h=>mL h (fun e h=>e▸.input b (of_decide_eq_true h)) fun h=>mL h (fun e h=>e▸.neg b (of_decide_eq_true h)) fun h=>Bool.noConfusion h
 | [a,b,c],h=>mL h (fun e h=>e▸.num b c (of_decide_eq_true h)) fun h=>mL h (fun e h=>e▸.add b c (je h).1 (je h).2) fun h=>mL h (fun e h=>e▸.sub b c (je h).1 (je h).2) fun h=>mL h (fun e h=>e▸.mul b c (je h).1 (je h).2) fun h=>mL h (fun e h=>e▸.div b c (je h).1 (je h).2) fun h=>Bool.noConfusion h
 | [],h=>Bool.noConfusion h
 | [_],h=>Bool.noConfusion h
 | _::_::_::_::_,h=>Bool.noConfusion h
theorem Wf.low {l:List Int} (h:Wf l):Low (aU l):=by
 cases h with
 | num n d h=>exact⟨_,i6 _ _⟩
 | _=>trivial
noncomputable def bI (l:List Int):Option (List (List Int)):=
 match l with
 | []=>some []
 | op::r=>if op < 0∨6 < op then none else if wfl ((op::r).take (fj op))=true then(bI ((op::r).drop (fj op))).map fun c=>(op::r).take (fj op)::c else none
termination_by l.length
decreasing_by
 have:=lJ op
 simp only [List.length_drop,List.length_cons]
 omega
theorem jk:bI []=some []:=by unfold bI; rfl
theorem km (op:Int) (r:List Int):bI (op::r)=if op < 0∨6 < op then none else if wfl ((op::r).take (fj op))=true then(bI ((op::r).drop (fj op))).map fun c=>(op::r).take (fj op)::c else none:=by
 conv=>lhs; unfold bI
theorem u6:∀(n:Nat) (l:List Int) (c:List (List Int)),l.length≤n→bI l=some c→(∀x∈c,Wf x)∧c.length≤l.length
 | _,[],c,_,h=>by
  rw [jk] at h; cases h
  exact⟨fun x hx=>(nomatch hx),Nat.le_refl _⟩
 | 0,_::_,c,hn,h=>by simp at hn
 | n+1,op::r,c,hn,h=>by
  rw [km] at h
  by_cases h1:op < 0∨6 < op
  ·rw [if_pos h1] at h; cases h
  ·rw [if_neg h1] at h
   by_cases h2:wfl ((op::r).take (fj op))=true
   ·rw [if_pos h2] at h
    cases z:bI ((op::r).drop (fj op)) with
    | none=>rw [z] at h; cases h
    | some d=>
     rw [z] at h
     cases h
     have hl:=lJ op
     have hd:((op::r).drop (fj op)).length+2≤(op::r).length∨(op::r).length < 2:=by
      rw [List.length_drop]; omega
     have hlt:((op::r).drop (fj op)).length≤n:=by rw [List.length_drop]; simp only [List.length_cons] at hn⊢; omega
     obtain⟨a,b⟩:=u6 n _ d hlt z
     refine⟨fun x hx=>?_,?_⟩
     ·rcases List.mem_cons.mp hx with e | e
      ·rw [e]; exact Jm h2
      ·exact a x e
     ·rw [List.length_cons]
      rw [List.length_drop] at b
      simp only [List.length_cons] at b⊢
      omega
   ·rw [if_neg h2] at h; cases h
theorem Ll {f:Nat} {s:List Int} {k op:Int} {L:Nat→Line} (e:VagraLine.codeOf f s=(bI s).map (List.map aU)) (hl:aU [op,k]=L k.toNat):
  (if k < 0 then none else(VagraLine.codeOf f s).map fun c=>L k.toNat::c)=Option.map (List.map aU) (if decide (0≤k)=true then(bI s).map fun c=>[op,k]::c else none):=by
 rw [e,←hl]
 by_cases hk:k < 0
 ·rw [if_pos hk,decide_eq_false (by omega),if_neg Bool.false_ne_true]; rfl
 ·rw [if_neg hk,decide_eq_true (by omega),if_pos rfl]; cases bI s <;> rfl
theorem HN {f:Nat} {s:List Int} {i j op:Int} {L:Nat→Nat→Line} (e:VagraLine.codeOf f s=(bI s).map (List.map aU)) (hl:aU [op,i,j]=L i.toNat j.toNat):
  (if i < 0∨j < 0 then none else(VagraLine.codeOf f s).map fun c=>L i.toNat j.toNat::c)=Option.map (List.map aU) (if (decide (0≤i) && decide (0≤j))=true then(bI s).map fun c=>[op,i,j]::c else none):=by
 rw [e,←hl]
 by_cases hk:i < 0∨j < 0
 ·rw [if_pos hk,if_neg fun h=>by have:=je h; omega]; rfl
 ·rw [if_neg hk,if_pos ((Bool.and_eq_true _ _).mpr ⟨decide_eq_true (by omega),decide_eq_true (by omega)⟩)]; cases bI s <;> rfl
theorem Mx {f:Nat} {s:List Int} {n d:Int} (e:VagraLine.codeOf f s=(bI s).map (List.map aU)):
  (if d < 1 then none else(VagraLine.codeOf f s).map fun c=>Line.num (Vagraa.frac n d.toNat)::c)=Option.map (List.map aU) (if decide (1≤d)=true then(bI s).map fun c=>[1,n,d]::c else none):=by
 rw [e]
 by_cases hk:d < 1
 ·rw [if_pos hk,decide_eq_false (by omega),if_neg Bool.false_ne_true]; rfl
 ·rw [if_neg hk,decide_eq_true (by omega),if_pos rfl]; cases bI s <;> rfl
theorem E9 {f:Nat} {op:Int} {r:List Int} (h:op < 0∨6 < op):VagraLine.codeOf (f+1) (op::r)=none:=by
 have n:∀k:Int,0≤k→k≤6→¬op=k:=fun k h1 h2=>by omega
 show VagraLine.codeOf.match_1 (fun _ _=>_) op r _ _ _ _ _ _ _ _=none
 delta VagraLine.codeOf.match_1
 have n0:=n 0 (by decide) (by decide)
 have n1:=n 1 (by decide) (by decide)
 have n2:=n 2 (by decide) (by decide)
 have n3:=n 3 (by decide) (by decide)
 have n4:=n 4 (by decide) (by decide)
 have n5:=n 5 (by decide) (by decide)
 have n6:=n 6 (by decide) (by decide)
 dsimp only
 rw [dif_neg n0,dif_neg n1,dif_neg n2,dif_neg n3,dif_neg n4,dif_neg n5,dif_neg n6]
theorem Cf:∀(f:Nat) (l:List Int),l.length≤f→VagraLine.codeOf f l=(bI l).map (List.map aU):=by
 intro f
 induction f with
 | zero=>
  intro l h
  cases l with
  | nil=>rw [jk]; rfl
  | cons a r=>exact absurd h (Nat.not_succ_le_zero _)
 | succ f ih=>
  intro l h
  cases l with
  | nil=>rw [jk]; rfl
  | cons op r=>
   have hlr:r.length≤f:=Nat.le_of_succ_le_succ h
   clear h
   rw [km]
   by_cases h1:op < 0∨6 < op
   ·rw [if_pos h1,E9 h1]; rfl
   ·rw [if_neg h1]
    have hk:op=0∨op=1∨op=2∨op=3∨op=4∨op=5∨op=6:=by omega
    have a1:∀{k:Int} {s:List Int},(k::s).length≤f→VagraLine.codeOf f s=(bI s).map (List.map aU):=fun h=>ih _ (Nat.le_of_succ_le h)
    have a2:∀{k k':Int} {s:List Int},(k::k'::s).length≤f→VagraLine.codeOf f s=(bI s).map (List.map aU):=fun h=>a1 (Nat.le_of_succ_le h)
    clear h1
    rcases hk with rfl | rfl | rfl | rfl | rfl | rfl | rfl
    ·match r,hlr with
     | [],_=>rfl
     | k::s,h=>exact Ll (L:=Line.input) (a1 h) rfl
    ·match r,hlr with
     | [],_=>rfl
     | [_],_=>rfl
     | n::d::s,h=>exact Mx (a2 h)
    ·match r,hlr with
     | [],_=>rfl
     | [_],_=>rfl
     | i::j::s,h=>exact HN (L:=Line.add) (a2 h) rfl
    ·match r,hlr with
     | [],_=>rfl
     | [_],_=>rfl
     | i::j::s,h=>exact HN (L:=Line.sub) (a2 h) rfl
    ·match r,hlr with
     | [],_=>rfl
     | [_],_=>rfl
     | i::j::s,h=>exact HN (L:=Line.mul) (a2 h) rfl
    ·match r,hlr with
     | [],_=>rfl
     | [_],_=>rfl
     | i::j::s,h=>exact HN (L:=Line.div) (a2 h) rfl
    ·match r,hlr with
     | [],_=>rfl
     | k::s,h=>exact Ll (L:=Line.neg) (a1 h) rfl
noncomputable def fZ (inputs n:Nat):List Int→Prop
 | [0,k]=>k < inputs
 | [1,_,_]=>True
 | [_,i,j]=>i < n∧j < n
 | [_,i]=>i < n
 | _=>True
noncomputable def Known (inputs:Nat):Nat→List (List Int)→Prop
 | _,[]=>True
 | n,l::r=>fZ inputs n l∧Known inputs (n+1) r
theorem CL {n:Nat} {i j:Int} (h:0≤i) (h':0≤j):(([i.toNat,j.toNat]:List Nat).all (fun i=>decide (i < n)) && true)=true↔i < (n:Int)∧j < (n:Int):=by
 rw [Bool.and_true,List.all_cons,List.all_cons,List.all_nil,Bool.and_true,Bool.and_eq_true,decide_eq_true_iff,decide_eq_true_iff]; omega
theorem sB {inputs n:Nat} {l:List Int} (w:Wf l):((aU l).uses.all (fun i=>decide (i < n)) && (match aU l with | .input k=>decide (k < inputs) | _=>true))=true↔fZ inputs n l:=by
 cases w with
 | input k h=>exact(decide_eq_true_iff (p:=k.toNat < inputs)).trans ⟨(fun z=>show k < (inputs:Int) by omega),(fun z=>by have z:k < (inputs:Int):=z; omega)⟩
 | num n d h=>exact⟨fun _=>trivial,fun _=>rfl⟩
 | add i j h h'=>exact CL h h'
 | sub i j h h'=>exact CL h h'
 | mul i j h h'=>exact CL h h'
 | div i j h h'=>exact CL h h'
 | neg i h=>
  refine Iff.trans (b:=i.toNat < n) ?_ ⟨(fun z=>show i < (n:Int) by omega),(fun z=>by have z:i < (n:Int):=z; omega)⟩
  show((decide (i.toNat < n) && true) && true)=true↔_
  rw [Bool.and_true,Bool.and_true,decide_eq_true_iff]
theorem qX {inputs:Nat}:∀(c:List (List Int)) (n:Nat),(∀x∈c,Wf x)→(VagraLine.wellFrom inputs n (c.map aU)=true↔Known inputs n c)
 | [],n,_=>by simp [VagraLine.wellFrom,Known]
 | l::r,n,h=>by
  show((aU l).uses.all (fun i=>decide (i < n)) && (match aU l with | .input k=>decide (k < inputs) | _=>true) && VagraLine.wellFrom inputs (n+1) (r.map aU))=true↔fZ inputs n l∧Known inputs (n+1) r
  rw [Bool.and_eq_true,sB (h l (List.mem_cons_self ..)),qX r (n+1) fun x hx=>h x (List.mem_cons_of_mem _ hx)]
theorem Known.at {inputs:Nat}:∀{c:List (List Int)} {n i:Nat} {l:List Int},Known inputs n c→c[i]?= some l→fZ inputs (n+i) l
 | [],_,_,_,_,h=>by simp at h
 | x::r,n,0,l,k,h=>by simp at h; subst h; exact k.1
 | x::r,n,i+1,l,k,h=>by
  have:=Known.at (n:=n+1) (i:=i) (l:=l) k.2 (by simpa using h)
  rw [show n+(i+1)=n+1+i by omega]
  exact this
theorem Known.of {inputs:Nat}:∀{c:List (List Int)} {n:Nat},(∀i l,c[i]?= some l→fZ inputs (n+i) l)→Known inputs n c
 | [],_,_=>trivial
 | x::r,n,h=>⟨h 0 x rfl,Known.of fun i l e=>by
  have:=h (i+1) l (by simpa using e)
  rw [show n+1+i=n+(i+1) by omega]
  exact this⟩
end BM
namespace BM
open VagraLine (Line Code)
noncomputable abbrev Row:=List Int×Int
noncomputable def val (r:Row):List Rat:=r.1.map fun x=>Rat.divInt x r.2
structure Bd (r:Row) (M b:Nat):Prop where
 pos:0 < r.2
 dvd:r.2.toNat∣M
 le:∀x∈r.1,x.natAbs≤2 ^ b*r.2.toNat
theorem Bd.mono {r:Row} {M N b c:Nat} (h:Bd r M b) (d:M∣N) (l:b≤c):Bd r N c:=
 ⟨h.pos,Nat.dvd_trans h.dvd d,fun x hx=>Nat.le_trans (h.le x hx) (Nat.mul_le_mul_right _ (Nat.pow_le_pow_right (by decide) l))⟩
theorem tp (a b:Int) {c d:Int}:Rat.divInt (a*b) (c*d)=Rat.divInt a c*Rat.divInt b d:=(Rat.divInt_mul_divInt a b).symm
theorem jB {a b c:Int} (h:c≠0):Rat.divInt (a*c) (b*c)=Rat.divInt a b:=Rat.divInt_mul_right h
theorem tu {a b c:Int} (h:c≠0):Rat.divInt (a+b) c=Rat.divInt a c+Rat.divInt b c:=by
 rw [Rat.divInt_eq_div,Rat.divInt_eq_div,Rat.divInt_eq_div,Rat.intCast_add,Rat.div_def,Rat.div_def,Rat.div_def,Rat.add_mul]
noncomputable def ke (r:Row) (s:Rat):Row:=(r.1.map fun x=>x*s.num,r.2*s.den)
theorem DE (s:Rat):(0:Int) < s.den:=by have:=s.den_nz; omega
theorem Bj (r:Row) (s:Rat):val (ke r s)=(val r).map (·* s):=by
 unfold val ke
 rw [List.map_map,List.map_map]
 refine List.map_congr_left fun x _=>?_
 show Rat.divInt (x*s.num) (r.2*s.den)=Rat.divInt x r.2*s
 rw [tp,Rat.num_divInt_den]
theorem Ee {r:Row} {s:Rat} {M b c:Nat} (h:Bd r M b) (hs:s.num.natAbs≤2 ^ c):Bd (ke r s) (M*s.den) (b+c) where
 pos:=Int.mul_pos h.pos (DE s)
 dvd:=by
  show(r.2*(s.den:Int)).toNat∣M*s.den
  have e:(r.2*(s.den:Int)).toNat=r.2.toNat*s.den:=by
   obtain⟨m,hm⟩:=Int.eq_ofNat_of_zero_le (Int.le_of_lt h.pos)
   rw [hm]
   show((m:Int)*(s.den:Int)).toNat=m*s.den
   rw [←Int.natCast_mul]
   rfl
  rw [e]
  exact Nat.mul_dvd_mul_right h.dvd _
 le:=fun y hy=>by
  obtain⟨x,hx,rfl⟩:=List.mem_map.mp hy
  have h1:=h.le x hx
  have e:(r.2*(s.den:Int)).toNat=r.2.toNat*s.den:=by
   obtain⟨m,hm⟩:=Int.eq_ofNat_of_zero_le (Int.le_of_lt h.pos)
   rw [hm]
   show((m:Int)*(s.den:Int)).toNat=m*s.den
   rw [←Int.natCast_mul]
   rfl
  show(x*s.num).natAbs≤2 ^ (b+c)*(r.2*(s.den:Int)).toNat
  rw [e,Int.natAbs_mul,Nat.pow_add]
  have h2:1≤s.den:=Nat.pos_of_ne_zero s.den_nz
  calc x.natAbs*s.num.natAbs≤(2 ^ b*r.2.toNat)*2 ^ c:=Nat.mul_le_mul h1 hs
   _=(2 ^ b*2 ^ c*r.2.toNat)*1:=by rw [Nat.mul_one,Nat.mul_assoc,Nat.mul_comm r.2.toNat,←Nat.mul_assoc]
   _≤(2 ^ b*2 ^ c*r.2.toNat)*s.den:=Nat.mul_le_mul_left _ h2
   _=2 ^ b*2 ^ c*(r.2.toNat*s.den):=by rw [Nat.mul_assoc]
noncomputable def short (r:Row) (g:Int):Row:=(r.1.map fun x=>x / g,r.2 / g)
theorem Ed {r:Row} {g:Int} (hg:0 < g) (hd:g∣r.2) (hx:∀x∈r.1,g∣x):val (short r g)=val r:=by
 unfold val short
 rw [List.map_map]
 refine List.map_congr_left fun x h=>?_
 show Rat.divInt (x / g) (r.2 / g)=Rat.divInt x r.2
 have e1:=Int.ediv_mul_cancel (hx x h)
 have e2:=Int.ediv_mul_cancel hd
 conv=>rhs; rw [←e1,←e2]
 rw [jB (by omega)]
theorem FP {r:Row} {g:Int} {M b:Nat} (hg:0 < g) (hd:g∣r.2) (hx:∀x∈r.1,g∣x) (h:Bd r M b):Bd (short r g) M b:=by
 obtain⟨d,hd⟩:=hd
 have hp:=h.pos
 have e:r.2 / g=d:=by rw [hd]; exact Int.mul_ediv_cancel_left _ (by omega)
 have hdp:0 < d:=by
  rw [hd] at hp
  exact Int.pos_of_mul_pos_right hp hg
 have et:r.2.toNat=g.toNat*d.toNat:=by
  obtain⟨m,hm⟩:=Int.eq_ofNat_of_zero_le (Int.le_of_lt hg)
  obtain⟨k,hk⟩:=Int.eq_ofNat_of_zero_le (Int.le_of_lt hdp)
  rw [hd,hm,hk]
  show((m:Int)*(k:Int)).toNat=m*k
  rw [←Int.natCast_mul]
  rfl
 refine⟨?_,?_,fun y hy=>?_⟩
 ·show 0 < r.2 / g
  rw [e]; exact hdp
 ·show(r.2 / g).toNat∣M
  rw [e]
  exact Nat.dvd_trans ⟨g.toNat,by rw [et,Nat.mul_comm]⟩ h.dvd
 ·obtain⟨x,hx',rfl⟩:=List.mem_map.mp hy
  obtain⟨z,hz⟩:=hx x hx'
  have h1:=h.le x hx'
  show(x / g).natAbs≤2 ^ b*(r.2 / g).toNat
  have e3:x / g=z:=by rw [hz]; exact Int.mul_ediv_cancel_left _ (by omega)
  rw [e,e3]
  rw [hz,et,Int.natAbs_mul] at h1
  have hgn:g.natAbs=g.toNat:=by omega
  rw [hgn] at h1
  have h2:g.toNat*z.natAbs≤g.toNat*(2 ^ b*d.toNat):=by
   rw [show g.toNat*(2 ^ b*d.toNat)=2 ^ b*(g.toNat*d.toNat) by rw [←Nat.mul_assoc,Nat.mul_comm g.toNat,Nat.mul_assoc]]
   exact h1
  exact Nat.le_of_mul_le_mul_left h2 (by omega)
noncomputable def qf (L:Int) (r:Row):Row:=(r.1.map fun x=>x*(L / r.2),L)
noncomputable def rc (L:Int) (r s:Row):Row:=(List.zipWith (fun x y=>x*(L / r.2)+y*(L / s.2)) r.1 s.1,L)
theorem r6 {L:Int} {r:Row} {M b:Nat} (h:Bd r M b) (hL:0 < L) (d:r.2∣L):val (qf L r)=val r:=by
 obtain⟨k,hk⟩:=d
 have hp:=h.pos
 have e:L / r.2=k:=by rw [hk]; exact Int.mul_ediv_cancel_left _ (by omega)
 have hk0:k≠0:=by intro z; rw [z] at hk; omega
 unfold val qf
 rw [List.map_map]
 refine List.map_congr_left fun x _=>?_
 show Rat.divInt (x*(L / r.2)) L=Rat.divInt x r.2
 rw [e,hk,jB hk0]
theorem wB {L:Int} {r:Row} {M N b:Nat} (h:Bd r M b) (hL:0 < L) (d:r.2∣L) (hN:L.toNat∣N):Bd (qf L r) N b:=by
 obtain⟨k,hk⟩:=d
 have hp:=h.pos
 have e:L / r.2=k:=by rw [hk]; exact Int.mul_ediv_cancel_left _ (by omega)
 have hk0:0 < k:=by
  rw [hk] at hL
  exact Int.pos_of_mul_pos_right hL hp
 refine⟨hL,hN,fun y hy=>?_⟩
 obtain⟨x,hx,rfl⟩:=List.mem_map.mp hy
 show(x*(L / r.2)).natAbs≤2 ^ b*L.toNat
 have et:L.toNat=r.2.toNat*k.toNat:=by
  obtain⟨m,hm⟩:=Int.eq_ofNat_of_zero_le (Int.le_of_lt hp)
  obtain⟨j,hj⟩:=Int.eq_ofNat_of_zero_le (Int.le_of_lt hk0)
  rw [hk,hm,hj]
  show((m:Int)*(j:Int)).toNat=m*j
  rw [←Int.natCast_mul]
  rfl
 rw [e,Int.natAbs_mul,et,←Nat.mul_assoc]
 have h1:=h.le x hx
 have e2:k.natAbs=k.toNat:=by omega
 rw [e2]
 exact Nat.mul_le_mul_right _ h1
theorem AR {L:Int} {r s:Row} {M N b c:Nat} (h:Bd r M b) (h':Bd s N c) (hL:0 < L) (d:r.2∣L) (d':s.2∣L):val (rc L r s)=List.zipWith (·+ ·) (val r) (val s):=by
 have e1:=r6 h hL d
 have e2:=r6 h' hL d'
 rw [←e1,←e2]
 unfold val qf rc
 rw [List.map_zipWith]
 simp only [List.map_map,List.zipWith_map]
 congr 1
 funext x y
 exact tu (by omega)
theorem pU {α β γ:Type} {f:α→β→γ} {z:γ}:∀{l:List α} {m:List β},z∈List.zipWith f l m→∃x∈l,∃y∈m,z=f x y
 | [],_,h=>by simp at h
 | _::_,[],h=>by simp at h
 | a::l,b::m,h=>by
  rw [List.zipWith_cons_cons] at h
  rcases List.mem_cons.mp h with e | e
  ·exact⟨a,List.mem_cons_self ..,b,List.mem_cons_self ..,e⟩
  ·obtain⟨x,hx,y,hy,e⟩:=pU e
   exact⟨x,List.mem_cons_of_mem _ hx,y,List.mem_cons_of_mem _ hy,e⟩
theorem D9 {L:Int} {r s:Row} {M N P b:Nat} (h:Bd r M b) (h':Bd s N b) (hL:0 < L) (d:r.2∣L) (d':s.2∣L) (hP:L.toNat∣P):Bd (rc L r s) P (b+1):=by
 have o1:=wB h hL d hP
 have o2:=wB h' hL d' hP
 refine⟨hL,hP,fun z hz=>?_⟩
 obtain⟨x,hx,y,hy,rfl⟩:=pU hz
 have l1:=o1.le (x*(L / r.2)) (List.mem_map.mpr ⟨x,hx,rfl⟩)
 have l2:=o2.le (y*(L / s.2)) (List.mem_map.mpr ⟨y,hy,rfl⟩)
 have l1:(x*(L / r.2)).natAbs≤2 ^ b*L.toNat:=l1
 have l2:(y*(L / s.2)).natAbs≤2 ^ b*L.toNat:=l2
 show(x*(L / r.2)+y*(L / s.2)).natAbs≤2 ^ (b+1)*L.toNat
 have l3:=Int.natAbs_add_le (x*(L / r.2)) (y*(L / s.2))
 have e:2 ^ (b+1)*L.toNat=2 ^ b*L.toNat+2 ^ b*L.toNat:=by rw [Nat.pow_succ,Nat.mul_comm (2 ^ b) 2,Nat.mul_assoc,Nat.two_mul]
 omega
end BM
namespace BM
open VagraLine (Line Code)
theorem bits_le_iff {n m:Nat}:Vagraa.bits n≤m↔n < 2 ^ m:=by
 unfold Vagraa.bits
 by_cases h:n=0
 ·subst h
  rw [if_pos rfl]
  exact⟨fun _=>Nat.two_pow_pos m,fun _=>Nat.zero_le _⟩
 ·rw [if_neg h,←Nat.log2_lt h]
  exact Nat.succ_le_iff
theorem xA (n:Nat):n < 2 ^ Vagraa.bits n:=bits_le_iff.mp (Nat.le_refl _)
theorem cC {n m:Nat} (h:n≤m):Vagraa.bits n≤Vagraa.bits m:=bits_le_iff.mpr (Nat.lt_of_le_of_lt h (xA m))
theorem e8 (n m:Nat):Vagraa.bits (n*m)≤Vagraa.bits n+Vagraa.bits m:=by
 rw [bits_le_iff,Nat.pow_add]
 by_cases h:m=0
 ·subst h; rw [Nat.mul_zero]; exact Nat.mul_pos (Nat.two_pow_pos _) (Nat.two_pow_pos _)
 ·exact Nat.mul_lt_mul_of_lt_of_le (xA n) (Nat.le_of_lt (xA m)) (Nat.two_pow_pos _)
theorem iw (q:Rat):wt q=Vagraa.bits q.num.natAbs+Vagraa.bits q.den:=rfl
theorem JL (q:Rat):wt (-q)=wt q:=by
 rw [iw,iw,Rat.neg_num,Rat.neg_den,Int.natAbs_neg]
theorem Fz {q:Rat} (h:q≠0):wt q⁻¹=wt q:=by
 have h0:q.num≠0:=fun e=>h (Rat.num_eq_zero.mp e)
 rw [iw,iw,Rat.num_inv,Rat.den_inv,if_neg h0,Int.natAbs_mul,Nat.add_comm]
 have e:q.num.sign.natAbs=1:=by
  rcases Int.lt_or_gt_of_ne h0 with z | z
  ·rw [Int.sign_eq_neg_one_of_neg z]; rfl
  ·rw [Int.sign_eq_one_of_pos z]; rfl
 rw [e,Nat.one_mul]
 rfl
theorem JM (p q:Rat):wt (p*q)≤wt p+wt q:=by
 rw [iw,iw,iw,Rat.mul_def']
 have hd:p.den*q.den≠0:=Nat.mul_ne_zero p.den_nz q.den_nz
 obtain⟨h1,h2⟩:=gV (p.num*q.num) (p.den*q.den) hd
 rw [h1,h2]
 have a1:((p.num*q.num) / ((Nat.gcd (p.num*q.num).natAbs (p.den*q.den):Nat):Int)).natAbs≤p.num.natAbs*q.num.natAbs:=by
  have hg:((Nat.gcd (p.num*q.num).natAbs (p.den*q.den):Nat):Int)∣p.num*q.num:=Int.ofNat_dvd_left.mpr (Nat.gcd_dvd_left ..)
  obtain⟨z,hz⟩:=hg
  have hpos:0 < Nat.gcd (p.num*q.num).natAbs (p.den*q.den):=Nat.gcd_pos_of_pos_right _ (Nat.pos_of_ne_zero hd)
  rw [←Int.natAbs_mul]
  generalize Nat.gcd (p.num*q.num).natAbs (p.den*q.den)=g at hz hpos⊢
  rw [hz,Int.mul_ediv_cancel_left _ (by omega),Int.natAbs_mul]
  exact Nat.le_mul_of_pos_left _ (by omega)
 have a2:p.den*q.den / Nat.gcd (p.num*q.num).natAbs (p.den*q.den)≤p.den*q.den:=Nat.div_le_self _ _
 have b1:=Nat.le_trans (cC a1) (e8 _ _)
 have b2:=Nat.le_trans (cC a2) (e8 _ _)
 omega
theorem Fy {q:Rat} {m:Nat} (h:wt q≤m):q.num.natAbs≤2 ^ m:=by
 rw [iw] at h
 exact Nat.le_of_lt (bits_le_iff.mp (by omega:Vagraa.bits q.num.natAbs≤m))
theorem Ax {q:Rat} {m:Nat} (h:wt q≤m):Vagraa.bits q.den≤m:=by
 rw [iw] at h
 omega
noncomputable def sl (vs:List Rat) (v:Rat):Line→List (Nat×Rat)
 | .neg i=>[(i,-1)]
 | .add i j=>[(i,1),(j,1)]
 | .sub i j=>[(i,1),(j,-1)]
 | .mul i j=>[(i,vs.getD j 0),(j,vs.getD i 0)]
 | .div i j=>[(i,1 / vs.getD j 0),(j,-(v*(1 / vs.getD j 0)))]
 | _=>[]
noncomputable def Iy:Line→Bool
 | .input _=>false
 | .num _=>false
 | _=>true
noncomputable def lW (rows:List (List Rat)) (a:List Rat) (p:Nat×Rat):List Rat:=List.zipWith (·+ ·) a ((rows.getD p.1 []).map (·* p.2))
noncomputable def im (parts:Nat) (vs:List Rat) (rows:List (List Rat)) (v:Rat) (l:Line):List Rat:=
 (List.range parts).map fun k=>Rc (eI (parts+1) k) vs (rows.map fun r=>r.getD k 0) v l
theorem e9 {rows:List (List Rat)} {a:List Rat} {p:Nat×Rat} {parts:Nat} (ha:a.length=parts) (hr:(rows.getD p.1 []).length=parts) (k:Nat) (hk:k < parts):(lW rows a p).getD k 0=a.getD k 0+(rows.map fun r=>r.getD k 0).getD p.1 0*p.2:=by
 unfold lW
 have h1:k < a.length:=by omega
 have h2:k < (rows.getD p.1 []).length:=by omega
 have e1:(rows.map fun r=>r.getD k 0).getD p.1 0=(rows.getD p.1 []).getD k 0:=by
  rw [List.getD_eq_getElem?_getD,List.getElem?_map,List.getD_eq_getElem?_getD (l:=rows)]
  cases rows[p.1]? <;> simp
 rw [e1]
 simp only [List.getD_eq_getElem?_getD,List.getElem?_zipWith,List.getElem?_map,List.getElem?_eq_getElem h1]
 have e2:(rows[p.1]?.getD [])[k]?= some ((rows.getD p.1 [])[k]):=by
  rw [←List.getD_eq_getElem?_getD]
  exact List.getElem?_eq_getElem h2
 rw [e2]
 simp
theorem cE {rows:List (List Rat)} {a:List Rat} {p:Nat×Rat} {parts:Nat} (ha:a.length=parts) (hr:(rows.getD p.1 []).length=parts):(lW rows a p).length=parts:=by
 unfold lW
 rw [List.length_zipWith,List.length_map,hr,ha,Nat.min_self]
theorem lB (parts k:Nat):(List.replicate parts (0:Rat)).getD k 0=0:=by
 rw [List.getD_eq_getElem?_getD,List.getElem?_replicate]
 split <;> rfl
theorem bK {l:List Rat} {parts:Nat} {f:Nat→Rat} (hl:l.length=parts) (h:∀k,k < parts→l.getD k 0=f k):l=(List.range parts).map f:=by
 refine List.ext_getElem? fun k=>?_
 rw [List.getElem?_map]
 by_cases hk:k < parts
 ·rw [List.getElem?_range hk,List.getElem?_eq_getElem (by omega)]
  have:=h k hk
  rw [List.getD_eq_getElem?_getD,List.getElem?_eq_getElem (by omega)] at this
  exact congrArg some this
 ·rw [List.getElem?_eq_none (by omega),List.getElem?_eq_none (by rw [List.length_range]; omega)]
  rfl
noncomputable def MX (rows:List (List Rat)) (parts:Nat) (l:Line):Prop:=∀i∈l.uses,(rows.getD i []).length=parts
theorem Jg {parts:Nat} {vs:List Rat} {rows:List (List Rat)} {v:Rat} {l:Line} (ho:Iy l=true) (hu:MX rows parts l):
  (sl vs v l).foldl (lW rows) (List.replicate parts 0)=im parts vs rows v l:=by
 have r0:(List.replicate parts (0:Rat)).length=parts:=List.length_replicate ..
 cases l with
 | input k=>cases ho
 | num a=>cases ho
 | neg i=>
  have h1:=hu i (by simp [Line.uses])
  refine bK (cE r0 h1) fun k hk=>?_
  show(lW rows _ (i,-1)).getD k 0=-_
  rw [e9 (p:=(i,-1)) r0 h1 k hk,lB]
  grind
 | add i j=>
  have h1:=hu i (by simp [Line.uses])
  have h2:=hu j (by simp [Line.uses])
  refine bK (cE (cE r0 h1) h2) fun k hk=>?_
  show(lW rows (lW rows _ (i,1)) (j,1)).getD k 0=_+_
  rw [e9 (p:=(j,1)) (cE r0 h1) h2 k hk,e9 (p:=(i,1)) r0 h1 k hk,lB]
  grind
 | sub i j=>
  have h1:=hu i (by simp [Line.uses])
  have h2:=hu j (by simp [Line.uses])
  refine bK (cE (cE r0 h1) h2) fun k hk=>?_
  show(lW rows (lW rows _ (i,1)) (j,-1)).getD k 0=_ - _
  rw [e9 (p:=(j,-1)) (cE r0 h1) h2 k hk,e9 (p:=(i,1)) r0 h1 k hk,lB]
  grind
 | mul i j=>
  have h1:=hu i (by simp [Line.uses])
  have h2:=hu j (by simp [Line.uses])
  refine bK (cE (cE r0 h1) h2) fun k hk=>?_
  show(lW rows (lW rows _ (i,vs.getD j 0)) (j,vs.getD i 0)).getD k 0=_*vs.getD j 0+vs.getD i 0*_
  rw [e9 (p:=(j,vs.getD i 0)) (cE r0 h1) h2 k hk,e9 (p:=(i,vs.getD j 0)) r0 h1 k hk,lB]
  grind
 | div i j=>
  have h1:=hu i (by simp [Line.uses])
  have h2:=hu j (by simp [Line.uses])
  refine bK (cE (cE r0 h1) h2) fun k hk=>?_
  show(lW rows (lW rows _ (i,1 / vs.getD j 0)) (j,-(v*(1 / vs.getD j 0)))).getD k 0=(_ - v*_) / vs.getD j 0
  rw [e9 (p:=(j,-(v*(1 / vs.getD j 0)))) (cE r0 h1) h2 k hk,e9 (p:=(i,1 / vs.getD j 0)) r0 h1 k hk,lB]
  simp only [Rat.div_def]
  grind
noncomputable def fD (parts:Nat) (vs:List Rat):List (List Rat)→Code→List (List Rat)
 | rows,[]=>rows
 | rows,l::r=>fD parts vs (rows++[im parts vs rows (vs.getD rows.length 0) l]) r
theorem zt {parts k:Nat} {vs:List Rat} {rows:List (List Rat)} {v:Rat} {l:Line} (hk:k < parts):(im parts vs rows v l).getD k 0=Rc (eI (parts+1) k) vs (rows.map fun r=>r.getD k 0) v l:=by
 unfold im
 rw [List.getD_eq_getElem?_getD,List.getElem?_map,List.getElem?_range hk]
 rfl
theorem rR {parts k:Nat} {vs:List Rat} (hk:k < parts):∀(c:Code) (rows:List (List Rat)),(fD parts vs rows c).map (fun r=>r.getD k 0)=Rcs (eI (parts+1) k) vs (rows.map fun r=>r.getD k 0) c
 | [],rows=>rfl
 | l::r,rows=>by
  show(fD parts vs (rows++[_]) r).map _=Rcs _ vs (rows.map _++[Rc _ vs (rows.map _) (vs.getD (rows.map _).length 0) l]) r
  rw [rR hk r,List.map_append,List.map_cons,List.map_nil,zt hk,List.length_map]
theorem Ix {parts:Nat} {vs:List Rat} {c:Code} {outs:List Nat} {o k:Nat} (hk:k < parts):jac c outs parts vs o k=((fD parts vs [] c).getD (outs.getD o 0) []).getD k 0:=by
 unfold jac
 have e:=rR (vs:=vs) hk c []
 rw [List.map_nil] at e
 rw [←e,List.getD_eq_getElem?_getD,List.getElem?_map,List.getD_eq_getElem?_getD (l:=fD parts vs [] c)]
 cases (fD parts vs [] c)[outs.getD o 0]? <;> simp
end BM
namespace BM
open VagraLine (Line Code)
open Vagrag (Chain)
theorem xQ {h:Nat} {ins:List Rat}:∀(c:Code) (vs us:List Rat),gE (some h) ins vs c=.ok us→∃ws,us=vs++ws∧ws.length=c.length∧(∀a∈ws,wt a≤h)∧∀(i:Nat) (l:Line),c[i]?= some l→Rv ins (us.take (vs.length+i)) l=some (us.getD (vs.length+i) 0)
 | [],vs,us,e=>by
  have e:vs=us:=by injection e
  subst e
  exact⟨[],(by simp),rfl,(fun a ha=>nomatch ha),fun i l hi=>(by cases hi)⟩
 | l::r,vs,us,e=>by
  unfold gE at e
  cases hv:Rv ins vs l with
  | none=>rw [hv] at e; cases e
  | some a=>
   rw [hv] at e
   have e:(if decide (h < wt a)=true then Except.error _ else gE (some h) ins (vs++[a]) r)=.ok us:=e
   by_cases hh:h < wt a
   ·rw [decide_eq_true hh,if_pos rfl] at e; cases e
   ·rw [decide_eq_false hh,if_neg Bool.false_ne_true] at e
    obtain⟨ws,e1,e2,e3,e4⟩:=xQ r (vs++[a]) us e
    refine⟨a::ws,by rw [e1]; simp,by rw [List.length_cons,List.length_cons,e2],fun z hz=>?_,fun i l' hi=>?_⟩
    ·rcases List.mem_cons.mp hz with q | q
     ·rw [q]; omega
     ·exact e3 z q
    ·cases i with
     | zero=>
      have el:l=l':=by simpa using hi
      subst el
      have et:us.take (vs.length+0)=vs:=by rw [e1,Nat.add_zero,List.append_assoc,List.take_left]
      have eg:us.getD (vs.length+0) 0=a:=by rw [e1,Nat.add_zero,List.append_assoc,List.getD_eq_getElem?_getD,List.getElem?_append_right (Nat.le_refl _)]; simp
      rw [et,eg]; exact hv
     | succ j=>
      have:=e4 j l' (by simpa using hi)
      rw [List.length_append,List.length_singleton] at this
      rw [show vs.length+(j+1)=vs.length+1+j by omega]
      exact this
theorem Hi {h:Nat} {ins us:List Rat} {c:Code} (e:gE (some h) ins [] c=.ok us) {n i j:Nat} (hl:c[n]?= some (.div i j)) (hj:j < n):us.getD j 0≠0:=by
 obtain⟨ws,e1,e2,e3,e4⟩:=xQ c [] us e
 have:=e4 n _ hl
 rw [List.length_nil,Nat.zero_add] at this
 have this:(if (us.take n).getD j 0=0 then none else some ((us.take n).getD i 0 / (us.take n).getD j 0))=some (us.getD n 0):=this
 have hlen:n < us.length:=by rw [e1,List.nil_append,e2]; exact(List.getElem?_eq_some_iff.mp hl).1
 have eg:(us.take n).getD j 0=us.getD j 0:=by rw [List.getD_eq_getElem?_getD,List.getElem?_take_of_lt hj,List.getD_eq_getElem?_getD]
 rw [eg] at this
 intro z
 rw [if_pos z] at this
 cases this
structure TabFor (t:List (List Int)×Int) (code:Code) (outs:List Nat) (size:Nat) (vs:List Rat) (M b:Nat):Prop where
 len:t.1.length=size
 row:∀(o:Nat) (l:List Int),t.1[o]?= some l→Bd (l,t.2) M b∧val (l,t.2)=(List.range size).map (jac code outs size vs o)
 pos:0 < M
 den:0 < t.2
 dvd:t.2.toNat∣M
theorem TabFor.rlen {t:List (List Int)×Int} {code:Code} {outs:List Nat} {size:Nat} {vs:List Rat} {M b:Nat} (h:TabFor t code outs size vs M b) {o:Nat} {l:List Int} (e:t.1[o]?= some l):l.length=size:=by
 have:=congrArg List.length (h.row o l e).2
 unfold val at this
 rw [List.length_map,List.length_map,List.length_range] at this
 exact this
theorem B5 {l:List Int} {d:Int} {f:Nat→Rat} {size k:Nat} (h:val (l,d)=(List.range size).map f) (hk:k < size):Rat.divInt (l.getD k 0) d=f k:=by
 have e:=congrArg (fun z=>List.getD z k 0) h
 unfold val at e
 rw [List.getD_eq_getElem?_getD,List.getD_eq_getElem?_getD,List.getElem?_map,List.getElem?_map,List.getElem?_range hk] at e
 have hl:l.length=size:=by
  have:=congrArg List.length h
  unfold val at this
  rw [List.length_map,List.length_map,List.length_range] at this
  exact this
 have hk':k < l.length:=by omega
 rw [List.getElem?_eq_getElem hk'] at e
 rw [List.getD_eq_getElem?_getD,List.getElem?_eq_getElem hk']
 exact e
noncomputable def tf (xs ys:List Int):Int:=(List.zipWith (·* ·) xs ys).sum
theorem xm {d e:Int} (hd:d≠0) (he:e≠0):∀(xs ys:List Int),Rat.divInt (tf xs ys) (d*e)=eB (List.zipWith (·* ·) (val (xs,d)) (val (ys,e)))
 | [],ys=>by
  show Rat.divInt 0 (d*e)=0
  exact Rat.zero_divInt _
 | x::xs,[]=>by
  show Rat.divInt 0 (d*e)=0
  exact Rat.zero_divInt _
 | x::xs,y::ys=>by
  show Rat.divInt (x*y+tf xs ys) (d*e)=Rat.divInt x d*Rat.divInt y e+eB (List.zipWith (·* ·) (val (xs,d)) (val (ys,e)))
  rw [tu (Int.mul_ne_zero hd he),tp,xm hd he xs ys]
theorem uT {a b:List Rat} {n:Nat} (ha:a.length=n) (hb:b.length=n):List.zipWith (·* ·) a b=(List.range n).map fun k=>a.getD k 0*b.getD k 0:=by
 refine bK (by rw [List.length_zipWith,ha,hb,Nat.min_self]) fun k hk=>?_
 rw [List.getD_eq_getElem?_getD,List.getElem?_zipWith,List.getElem?_eq_getElem (by omega),List.getElem?_eq_getElem (by omega),List.getD_eq_getElem?_getD,List.getD_eq_getElem?_getD,List.getElem?_eq_getElem (by omega),List.getElem?_eq_getElem (by omega)]
 rfl
theorem CK {l:List Int} {d:Int} {k:Nat} (h:k < l.length):(val (l,d)).getD k 0=Rat.divInt (l.getD k 0) d:=by
 unfold val
 rw [List.getD_eq_getElem?_getD,List.getElem?_map,List.getElem?_eq_getElem h,List.getD_eq_getElem?_getD,List.getElem?_eq_getElem h]
 rfl
theorem jd (r:Row):(val r).length=r.1.length:=List.length_map ..
theorem B2 {X Y:Nat}:∀(xs ys:List Int),(∀x∈xs,x.natAbs≤X)→(∀y∈ys,y.natAbs≤Y)→(tf xs ys).natAbs≤xs.length*(X*Y)
 | [],ys,_,_=>by show(0:Int).natAbs≤_; simp
 | x::xs,[],_,_=>by show(0:Int).natAbs≤_; simp
 | x::xs,y::ys,hx,hy=>by
  show(x*y+tf xs ys).natAbs≤(xs.length+1)*(X*Y)
  have h1:=B2 xs ys (fun z hz=>hx z (List.mem_cons_of_mem _ hz)) fun z hz=>hy z (List.mem_cons_of_mem _ hz)
  have h2:(x*y).natAbs≤X*Y:=by rw [Int.natAbs_mul]; exact Nat.mul_le_mul (hx x (List.mem_cons_self ..)) (hy y (List.mem_cons_self ..))
  have h3:=Int.natAbs_add_le (x*y) (tf xs ys)
  rw [Nat.succ_mul]
  omega
theorem lv {a b:Int} (ha:0 < a) (hb:0 < b):(a*b).toNat=a.toNat*b.toNat:=by
 obtain⟨m,rfl⟩:=Int.eq_ofNat_of_zero_le (Int.le_of_lt ha)
 obtain⟨n,rfl⟩:=Int.eq_ofNat_of_zero_le (Int.le_of_lt hb)
 rw [←Int.natCast_mul]
 rfl
noncomputable def qE (r:Row) (t:List (List Int)×Int):Row:=((List.range t.1.length).map fun k=>tf r.1 (t.1.map fun l=>l.getD k 0),r.2*t.2)
noncomputable def qK (r:Row) (t:List (List Int)×Int):Row:=(t.1.map fun l=>tf l r.1,r.2*t.2)
section
variable {t:List (List Int)×Int} {code:Code} {outs:List Nat} {size:Nat} {vs:List Rat} {M N b c:Nat} {r:Row}
theorem IX (h:TabFor t code outs size vs M b) {k:Nat} (hk:k < size):val (t.1.map fun l=>l.getD k 0,t.2)=(List.range size).map fun o=>jac code outs size vs o k:=by
 refine bK (by rw [jd,List.length_map,h.len]) fun o ho=>?_
 have ho':o < t.1.length:=by rw [h.len]; exact ho
 rw [CK (by rw [List.length_map]; exact ho')]
 have e:(t.1.map fun l=>l.getD k 0).getD o 0=t.1[o].getD k 0:=by
  rw [List.getD_eq_getElem?_getD,List.getElem?_map,List.getElem?_eq_getElem ho']; rfl
 rw [e]
 exact B5 (h.row o _ (List.getElem?_eq_getElem ho')).2 hk
theorem yu (h:TabFor t code outs size vs M b) (hr:Bd r N c) (hl:r.1.length=size):val (qE r t)=fS code outs size vs (val r):=by
 unfold qE fS
 rw [h.len]
 show List.map _ (List.map _ _)=_
 rw [List.map_map]
 refine List.map_congr_left fun k hk=>?_
 have hk:=List.mem_range.mp hk
 show Rat.divInt (tf r.1 (t.1.map fun l=>l.getD k 0)) (r.2*t.2)=_
 have h1:=hr.pos
 have h2:=h.den
 rw [xm (by omega) (by omega),IX h hk,uT (n:=size) (by rw [jd]; exact hl) (by rw [List.length_map,List.length_range])]
 refine congrArg eB (List.map_congr_left fun o ho=>?_)
 have ho:=List.mem_range.mp ho
 rw [List.getD_eq_getElem?_getD (l:=List.map _ _),List.getElem?_map,List.getElem?_range ho]
 rfl
theorem y3 (h:TabFor t code outs size vs M b) (hr:Bd r N c) (hl:r.1.length=size) (ho:outs.length=size):val (qK r t)=fT code outs vs (val r):=by
 rw [yU code outs size vs (val r) (by rw [jd]; exact hl) ho]
 unfold qK
 refine bK (by rw [jd]; show(List.map _ _).length=_; rw [List.length_map,h.len]) fun o ho=>?_
 have ho':o < t.1.length:=by rw [h.len]; exact ho
 rw [CK (by show o < (List.map _ _).length; rw [List.length_map]; exact ho')]
 have e:(t.1.map fun l=>tf l r.1).getD o 0=tf t.1[o] r.1:=by
  rw [List.getD_eq_getElem?_getD,List.getElem?_map,List.getElem?_eq_getElem ho']; rfl
 have h1:=hr.pos
 have h2:=h.den
 show Rat.divInt ((t.1.map fun l=>tf l r.1).getD o 0) (r.2*t.2)=_
 rw [e,Int.mul_comm r.2,xm (by omega) (by omega),(h.row o _ (List.getElem?_eq_getElem ho')).2,uT (n:=size) (by rw [List.length_map,List.length_range]) (by rw [jd]; exact hl)]
 refine congrArg eB (List.map_congr_left fun k hk=>?_)
 have hk:=List.mem_range.mp hk
 rw [List.getD_eq_getElem?_getD (l:=List.map _ _),List.getElem?_map,List.getElem?_range hk,Rat.mul_comm]
 rfl
theorem C2 (c b s X Y:Nat) (hs:s≤2 ^ 2):s*(2 ^ c*X*(2 ^ b*Y))≤2 ^ (c+b+2)*(X*Y):=by
 have e:2 ^ (c+b+2)*(X*Y)=2 ^ 2*(2 ^ c*X*(2 ^ b*Y)):=by
  rw [Nat.pow_add,Nat.pow_add]
  simp only [Nat.mul_assoc,Nat.mul_comm,Nat.mul_left_comm]
 rw [e]
 exact Nat.mul_le_mul_right _ hs
theorem AJ (h:TabFor t code outs size vs M b) (hr:Bd r N c) (hl:r.1.length=size) (hs:size≤4):Bd (qE r t) (N*M) (c+b+2) where
 pos:=Int.mul_pos hr.pos h.den
 dvd:=by
  show(r.2*t.2).toNat∣N*M
  rw [lv hr.pos h.den]
  exact Nat.mul_dvd_mul hr.dvd h.dvd
 le:=fun y hy=>by
  obtain⟨k,hk,rfl⟩:=List.mem_map.mp hy
  show _≤2 ^ (c+b+2)*(r.2*t.2).toNat
  rw [lv hr.pos h.den]
  have h1:=B2 (X:=2 ^ c*r.2.toNat) (Y:=2 ^ b*t.2.toNat) r.1 (t.1.map fun l=>l.getD k 0) hr.le fun y hy=>by
   obtain⟨l,hm,rfl⟩:=List.mem_map.mp hy
   obtain⟨o,ho,rfl⟩:=List.getElem_of_mem hm
   have hrow:=h.row o _ (List.getElem?_eq_getElem ho)
   rw [List.getD_eq_getElem?_getD]
   cases q:t.1[o][k]? with
   | none=>exact Nat.zero_le _
   | some z=>exact hrow.1.le z (List.mem_of_getElem? q)
  rw [hl] at h1
  exact Nat.le_trans h1 (C2 _ _ _ _ _ hs)
theorem Bn (h:TabFor t code outs size vs M b) (hr:Bd r N c) (hl:r.1.length=size) (hs:size≤4):Bd (qK r t) (N*M) (c+b+2) where
 pos:=Int.mul_pos hr.pos h.den
 dvd:=by
  show(r.2*t.2).toNat∣N*M
  rw [lv hr.pos h.den]
  exact Nat.mul_dvd_mul hr.dvd h.dvd
 le:=fun y hy=>by
  obtain⟨l,hm,rfl⟩:=List.mem_map.mp hy
  obtain⟨o,ho,rfl⟩:=List.getElem_of_mem hm
  have hrow:=h.row o _ (List.getElem?_eq_getElem ho)
  have hlen:=h.rlen (List.getElem?_eq_getElem ho)
  show _≤2 ^ (c+b+2)*(r.2*t.2).toNat
  rw [lv hr.pos h.den]
  have h1:=B2 (X:=2 ^ b*t.2.toNat) (Y:=2 ^ c*r.2.toNat) t.1[o] r.1 hrow.1.le hr.le
  rw [hlen] at h1
  have h2:=C2 b c size t.2.toNat r.2.toNat hs
  rw [Nat.mul_comm t.2.toNat,Nat.add_comm b c] at h2
  exact Nat.le_trans h1 h2
theorem yw (h:TabFor t code outs size vs M b):(qE r t).1.length=size:=by
 show(List.map _ _).length=_
 rw [List.length_map,List.length_range,h.len]
theorem y4 (h:TabFor t code outs size vs M b):(qK r t).1.length=size:=by
 show(List.map _ _).length=_
 rw [List.length_map,h.len]
end
end BM
namespace BM
open Vagrag (row rowFrom rowNext partCost leastOf alone)
theorem fY:∀(l:List Nat),l≠[]→leastOf l∈l∧∀y∈l,leastOf l≤y
 | [],h=>absurd rfl h
 | [x],_=>⟨by simp [leastOf],fun y hy=>by simp at hy; rw [hy]; exact Nat.le_refl _⟩
 | x::z::r,_=>by
  obtain⟨h1,h2⟩:=fY (z::r) (by simp)
  have e:leastOf (x::z::r)=min x (leastOf (z::r)):=rfl
  rw [e]
  refine⟨?_,fun y hy=>?_⟩
  ·rcases Nat.le_total x (leastOf (z::r)) with h | h
   ·rw [Nat.min_eq_left h]; exact List.mem_cons_self ..
   ·rw [Nat.min_eq_right h]; exact List.mem_cons_of_mem _ h1
  ·rcases List.mem_cons.mp hy with q | q
   ·rw [q]; exact Nat.min_le_left ..
   ·exact Nat.le_trans (Nat.min_le_right ..) (h2 y q)
theorem BN {l:List Nat} {m:Nat} (hm:m∈l) (h:∀y∈l,m≤y):leastOf l=m:=by
 obtain⟨h1,h2⟩:=fY l (fun z=>by rw [z] at hm; cases hm)
 exact Nat.le_antisymm (h2 m hm) (h _ h1)
noncomputable def cQ (prev cur:List Nat) (n:Nat):List Nat:=(List.range (n - 1)).map fun i=>partCost prev cur n (i+1)
theorem dm (prev:List Nat):∀(f:Nat) (cur:List Nat),rowFrom prev (f+1) cur=rowFrom prev f cur++[rowNext prev (rowFrom prev f cur)]
 | 0,cur=>rfl
 | f+1,cur=>dm prev f (cur++[rowNext prev cur])
theorem bF (prev:List Nat):∀f:Nat,(rowFrom prev f []).length=f
 | 0=>rfl
 | f+1=>by rw [dm,List.length_append,bF prev f]; rfl
theorem eJ (prev:List Nat) {f:Nat}:∀{g:Nat},f≤g→(rowFrom prev g []).take f=rowFrom prev f []
 | 0,h=>by
  have:f=0:=by omega
  subst this; rfl
 | g+1,h=>by
  by_cases e:f=g+1
  ·subst e
   exact List.take_of_length_le (by rw [bF]; exact Nat.le_refl _)
  ·rw [dm,List.take_append_of_le_length (by rw [bF]; omega)]
   exact eJ prev (by omega)
theorem em {l:List Nat} {n k:Nat} (h:k < n):(l.take n).getD k 0=l.getD k 0:=by
 rw [List.getD_eq_getElem?_getD,List.getElem?_take_of_lt h,List.getD_eq_getElem?_getD]
theorem ub {prev prev' cur:List Nat} (h:∀k,k < cur.length→prev.getD k 0=prev'.getD k 0):rowNext prev cur=rowNext prev' cur:=by
 unfold rowNext
 by_cases hn:cur.length≤1
 ·simp only [if_pos hn]
 ·simp only [if_neg hn]
  refine congrArg leastOf (List.map_congr_left fun i hi=>?_)
  have hi:=List.mem_range.mp hi
  unfold partCost
  rw [h (cur.length - (i+1)) (by omega)]
theorem l7 {prev prev':List Nat}:∀{f:Nat},(∀k,k < f→prev.getD k 0=prev'.getD k 0)→rowFrom prev f []=rowFrom prev' f []
 | 0,_=>rfl
 | f+1,h=>by
  rw [dm,dm,l7 (f:=f) fun k hk=>h k (by omega)]
  rw [ub (prev:=prev) (prev':=prev') fun k hk=>h k (by rw [bF] at hk; omega)]
theorem jj (n:Nat):∀c:Nat,(row n c).length=n+1
 | 0=>by show(List.map _ _).length=_; rw [List.length_map,List.length_range]
 | 1=>by show(List.map _ _).length=_; rw [List.length_map,List.length_range]
 | c+2=>bF _ _
theorem kl {n N:Nat} (h:n≤N):∀c:Nat,row n c=(row N c).take (n+1)
 | 0=>by
  show(List.range (n+1)).map alone=((List.range (N+1)).map alone).take (n+1)
  rw [←List.map_take,List.take_range,Nat.min_eq_left (by omega)]
 | 1=>by
  show(List.range (n+1)).map alone=((List.range (N+1)).map alone).take (n+1)
  rw [←List.map_take,List.take_range,Nat.min_eq_left (by omega)]
 | c+2=>by
  show rowFrom (row n (c+1)) (n+1) []=(rowFrom (row N (c+1)) (N+1) []).take (n+1)
  rw [eJ _ (by omega),kl h (c+1)]
  exact l7 fun k hk=>em (by omega)
theorem vx {n N c:Nat} (h:n≤N):Vagrag.least n c=(row N c).getD n 0:=by
 unfold Vagrag.least
 rw [kl h c,em (by omega)]
theorem l0 {prev cur:List Nat} (h:2≤cur.length):rowNext prev cur=leastOf (cQ prev cur cur.length):=by
 unfold rowNext cQ
 simp only [if_neg (by omega:¬cur.length≤1)]
theorem z3 {prev prev' cur cur':List Nat} {n:Nat} (h:∀k,k < n→prev.getD k 0=prev'.getD k 0) (h':∀k,k < n→cur.getD k 0=cur'.getD k 0):cQ prev cur n=cQ prev' cur' n:=by
 unfold cQ
 refine List.map_congr_left fun i hi=>?_
 have hi:=List.mem_range.mp hi
 unfold partCost
 rw [h _ (by omega),h' _ (by omega)]
theorem oB {N n c:Nat} (hn:2≤n) (hN:n≤N) (hc:2≤c):(row N c).getD n 0=leastOf (cQ (row N (c - 1)) (row N c) n):=by
 obtain⟨d,rfl⟩:∃d,c=d+2:=⟨c - 2,by omega⟩
 show(rowFrom (row N (d+1)) (N+1) []).getD n 0=leastOf (cQ (row N (d+1)) (rowFrom (row N (d+1)) (N+1) []) n)
 obtain⟨prev,hp⟩:∃prev,prev=row N (d+1):=⟨_,rfl⟩
 rw [←hp]
 have e1:(rowFrom prev (N+1) []).getD n 0=(rowFrom prev (n+1) []).getD n 0:=by
  rw [←eJ prev (f:=n+1) (g:=N+1) (by omega),em (by omega)]
 have e2:(rowFrom prev (n+1) []).getD n 0=rowNext prev (rowFrom prev n []):=by
  rw [dm,List.getD_eq_getElem?_getD,List.getElem?_append_right (by rw [bF]; exact Nat.le_refl _),bF]
  simp
 rw [e1,e2,l0 (by rw [bF]; exact hn),bF]
 refine congrArg leastOf (z3 (fun _ _=>rfl) fun k hk=>?_)
 rw [←eJ prev (f:=n) (g:=N+1) (by omega),em hk]
theorem sW {p:Nat→Bool}:∀{n j:Nat},j < n→p j=true→(∀m,m < j→p m=false)→(List.range n).find? p=some j
 | n,j,hj,hp,hm=>by
  rw [List.find?_range_eq_some]
  exact⟨hp,List.mem_range.mpr hj,fun i hi=>by rw [hm i hi]; rfl⟩
theorem Ea {N n c j:Nat} (hn:2≤n) (hN:n≤N) (hc:2≤c) (hj:(cQ (row N (c - 1)) (row N c) n)[j]?= some (leastOf (cQ (row N (c - 1)) (row N c) n)))
  (hf:∀m y,m < j→(cQ (row N (c - 1)) (row N c) n)[m]?= some y→y≠leastOf (cQ (row N (c - 1)) (row N c) n)):Vagrag.split n c=j+1:=by
 have ecost:∀i,i < n - 1→partCost (row n (c - 1)) (row n c) n (i+1)=partCost (row N (c - 1)) (row N c) n (i+1):=fun i hi=>by
  unfold partCost
  rw [kl hN (c - 1),kl hN c,em (by omega),em (by omega)]
 have eleast:(row n c).getD n 0=leastOf (cQ (row N (c - 1)) (row N c) n):=by
  rw [kl hN c,em (by omega),oB hn hN hc]
 have hjn:j < n - 1:=by
  have:=(List.getElem?_eq_some_iff.mp hj).1
  unfold cQ at this
  rw [List.length_map,List.length_range] at this
  exact this
 have at_:∀i,i < n - 1→(cQ (row N (c - 1)) (row N c) n)[i]?= some (partCost (row N (c - 1)) (row N c) n (i+1)):=fun i hi=>by
  unfold cQ
  rw [List.getElem?_map,List.getElem?_range hi]
  rfl
 unfold Vagrag.split
 show((List.range (n - 1)).find? fun i=>decide (partCost (row n (c - 1)) (row n c) n (i+1)=(row n c).getD n 0)).getD 0+1=j+1
 rw [sW hjn]
 ·rfl
 ·refine decide_eq_true ?_
  rw [ecost j hjn,eleast]
  have:=at_ j hjn
  rw [hj] at this
  exact(Option.some.inj this).symm
 ·intro m hm
  refine decide_eq_false fun z=>?_
  rw [ecost m (by omega),eleast] at z
  exact hf m _ hm (at_ m (by omega)) z
end BM
namespace BM
open Vagraa (Frac)
open VagraLine (Line Code Fault)
open Vagrag (Chain)
noncomputable def gm (code:Code) (i:Nat) (x:List Rat):Except Fault (List Rat):=gE (some 200) (x++[((i:Int):Rat)]) [] code
noncomputable def aY (outs:List Nat) (vs:List Rat):List Rat:=outs.map fun o=>vs.getD o 0
noncomputable def bn (code:Code) (outs:List Nat):Nat→Nat→List Rat→Except (Nat×Fault) (List (List Rat))
 | 0,_,_=>.ok []
 | n+1,i,x=>match gm code i x with
  | .error e=>.error (i,e)
  | .ok vs=>match bn code outs n (i+1) (aY outs vs) with
   | .ok l=>.ok (vs::l)
   | .error e=>.error e
theorem sJ (x:List Rat) (i:Nat):Chain.inputs (x.map aB) i=(x++[((i:Int):Rat)]).map aB:=by
 unfold Chain.inputs
 rw [List.map_append]
 rfl
theorem yB (c:Chain) (hl:∀l∈c.code,Low l) (i:Nat) (x:List Rat):c.step i (x.map aB)=match gm c.code i x with
  | .ok vs=>.ok ((aY c.outs vs).map aB)
  | .error e=>.error e:=by
 unfold Chain.step
 rw [sJ]
 unfold VagraLine.run
 have e:=ww (some Vagrae.HEAVY) (x++[((i:Int):Rat)]) c.code [] hl
 rw [List.map_nil] at e
 rw [e,show gE (some Vagrae.HEAVY) (x++[((i:Int):Rat)]) [] c.code=gm c.code i x from rfl]
 cases gm c.code i x with
 | error e=>rfl
 | ok vs=>
  show Except.ok (c.outs.map (VagraLine.at_ (vs.map aB)))=_
  refine congrArg Except.ok ?_
  unfold aY
  rw [List.map_map]
  exact List.map_congr_left fun o _=>dw vs o
theorem mi (c:Chain) (hl:∀l∈c.code,Low l):∀(n i:Nat) (x:List Rat),c.states n i (x.map aB)=match bn c.code c.outs n i x with
  | .ok l=>.ok ((x::l.map (aY c.outs)).map (List.map aB))
  | .error e=>.error e
 | 0,i,x=>rfl
 | n+1,i,x=>by
  unfold Chain.states bn
  rw [yB c hl]
  cases gm c.code i x with
  | error e=>rfl
  | ok vs=>
   show(match c.states n (i+1) ((aY c.outs vs).map aB) with | .ok l=>_ | .error e=>_)=_
   rw [mi c hl n (i+1) (aY c.outs vs)]
   cases ht:bn c.code c.outs n (i+1) (aY c.outs vs) with
   | error e=>simp only [ht]
   | ok l=>simp only [ht]; rfl
theorem vM {h:Nat} {ins:List Rat}:∀(c:Code) (vs us:List Rat),gE (some h) ins vs c=.ok us→gE none ins vs c=.ok us
 | [],vs,us,e=>e
 | l::r,vs,us,e=>by
  unfold gE at e⊢
  cases hv:Rv ins vs l with
  | none=>rw [hv] at e; cases e
  | some a=>
   rw [hv] at e
   have e:(if decide (h < wt a)=true then Except.error _ else gE (some h) ins (vs++[a]) r)=.ok us:=e
   by_cases hh:h < wt a
   ·rw [decide_eq_true hh,if_pos rfl] at e; cases e
   ·rw [decide_eq_false hh,if_neg Bool.false_ne_true] at e
    show(if false=true then Except.error _ else gE none ins (vs++[a]) r)=.ok us
    rw [if_neg Bool.false_ne_true]
    exact vM r _ us e
theorem Az (c:Chain) (hl:∀l∈c.code,Low l) {i:Nat} {x vs:List Rat} (h:gm c.code i x=.ok vs):c.values i (x.map aB)=vs.map aB:=by
 unfold Chain.values
 rw [sJ]
 unfold VagraLine.run
 have e:=ww none (x++[((i:Int):Rat)]) c.code [] hl
 rw [List.map_nil] at e
 rw [e,vM c.code [] vs h]
 rfl
theorem dM {code:Code} {outs:List Nat}:∀{n i:Nat} {x:List Rat} {l:List (List Rat)},bn code outs n i x=.ok l→l.length=n∧∀(j:Nat) (vs:List Rat),l[j]?= some vs→gm code (i+j) ((x::l.map (aY outs)).getD j [])=.ok vs
 | 0,i,x,l,h=>by
  have e:[]=l:=by injection h
  subst e
  exact⟨rfl,fun j vs hj=>by simp at hj⟩
 | n+1,i,x,l,h=>by
  unfold bn at h
  cases hs:gm code i x with
  | error e=>rw [hs] at h; cases h
  | ok us=>
   rw [hs] at h
   cases ht:bn code outs n (i+1) (aY outs us) with
   | error e=>simp only [ht] at h; cases h
   | ok m=>
    simp only [ht] at h
    have e:us::m=l:=by injection h
    subst e
    obtain⟨h1,h2⟩:=dM ht
    refine⟨by rw [List.length_cons,h1],fun j vs hj=>?_⟩
    cases j with
    | zero=>
     have e:us=vs:=by simpa using hj
     subst e
     exact hs
    | succ k=>
     have:=h2 k vs (by simpa using hj)
     rw [show i+(k+1)=i+1+k by omega]
     exact this
theorem mh {code:Code} {outs:List Nat}:∀{k n i:Nat} {x:List Rat} {l:List (List Rat)},bn code outs k i x=.ok l→bn code outs (k+n) i x=(match bn code outs n (i+k) ((x::l.map (aY outs)).getD k []) with
  | .ok m=>.ok (l++m)
  | .error e=>.error e)
 | 0,n,i,x,l,h=>by
  have e:[]=l:=by injection h
  subst e
  rw [Nat.zero_add,Nat.add_zero]
  show _=match bn code outs n i x with | .ok m=>Except.ok ([]++m) | .error e=>Except.error e
  cases bn code outs n i x <;> rfl
 | k+1,n,i,x,l,h=>by
  unfold bn at h
  cases hs:gm code i x with
  | error e=>rw [hs] at h; cases h
  | ok us=>
   rw [hs] at h
   cases ht:bn code outs k (i+1) (aY outs us) with
   | error e=>simp only [ht] at h; cases h
   | ok m=>
    simp only [ht] at h
    have e:us::m=l:=by injection h
    subst e
    have ih:=mh (n:=n) ht
    rw [show k+1+n=(k+n)+1 by omega]
    conv=>lhs; unfold bn
    rw [hs]
    show(match bn code outs (k+n) (i+1) (aY outs us) with | .ok l=>Except.ok (us::l) | .error e=>.error e)=_
    rw [ih,show i+(k+1)=i+1+k by omega]
    show _=match bn code outs n (i+1+k) (((aY outs us)::m.map (aY outs)).getD k []) with | .ok m2=>_ | .error e=>_
    cases bn code outs n (i+1+k) (((aY outs us)::m.map (aY outs)).getD k []) <;> rfl
theorem FH {code:Code} {i:Nat} {x vs:List Rat} (h:gm code i x=.ok vs):vs.length=code.length∧∀a∈vs,wt a≤200:=by
 obtain⟨ws,e1,e2,e3,_⟩:=xQ code [] vs h
 rw [List.nil_append] at e1
 rw [e1]
 exact⟨e2,e3⟩
noncomputable def dc (code:Code) (outs:List Nat) (size:Nat) (vss:List (List Rat)):Nat→List Rat→List Rat
 | 0,y=>y
 | i+1,y=>dc code outs size vss i (fS code outs size (vss.getD i []) y)
noncomputable def jN (code:Code) (outs:List Nat) (vss:List (List Rat)):Nat→Nat→List Rat→List Rat
 | 0,_,d=>d
 | n+1,i,d=>jN code outs vss n (i+1) (fT code outs (vss.getD i []) d)
theorem lL {l:List (List Rat)} {i:Nat} (h:i < l.length):(l.map (List.map aB)).getD i []=(l.getD i []).map aB:=by
 rw [List.getD_eq_getElem?_getD,List.getElem?_map,List.getElem?_eq_getElem h,List.getD_eq_getElem?_getD,List.getElem?_eq_getElem h]
 rfl
section
variable {c:Chain} (hl:∀l∈c.code,Low l) {n:Nat} {x:List Rat} {vss:List (List Rat)} (ht:bn c.code c.outs n 0 x=.ok vss)
include hl ht
theorem om {i:Nat} (hi:i < n):c.values i (((x::vss.map (aY c.outs)).map (List.map aB)).getD i [])=(vss.getD i []).map aB:=by
 obtain⟨h1,h2⟩:=dM ht
 rw [lL (by rw [List.length_cons,List.length_map]; omega)]
 have hv:vss[i]?= some (vss.getD i []):=by rw [List.getD_eq_getElem?_getD,List.getElem?_eq_getElem (by omega)]; rfl
 have:=h2 i _ hv
 rw [Nat.zero_add] at this
 exact Az c hl this
theorem jE:∀(k:Nat) (y:List Rat),k≤n→c.backward ((x::vss.map (aY c.outs)).map (List.map aB)) k (y.map aB)=(dc c.code c.outs c.size vss k y).map aB
 | 0,y,_=>rfl
 | k+1,y,hk=>by
  unfold Chain.backward dc
  rw [rb c k _ (vss.getD k []) y (om hl ht (by omega))]
  exact jE k _ (by omega)
theorem kO:∀(k i:Nat) (d:List Rat),i+k≤n→c.forward ((x::vss.map (aY c.outs)).map (List.map aB)) k i (d.map aB)=(jN c.code c.outs vss k i d).map aB
 | 0,i,d,_=>rfl
 | k+1,i,d,hk=>by
  unfold Chain.forward jN
  rw [Bm c i _ (vss.getD i []) d (om hl ht (by omega))]
  exact kO k (i+1) _ (by omega)
end
noncomputable def dh (l:List Rat):Except Int (List Int):=if (l.any fun q=>decide (4000 < wt q))=true then .error (-6) else .ok ((l.length:Int)::l.flatMap fun q=>[q.num,(q.den:Int)])
theorem fW (l:List Rat):Vagrag.tell (l.map aB)=dh l:=by
 unfold Vagrag.tell dh
 rw [List.any_map,List.length_map]
 have e:VagraLine.fracsTold (l.map aB)=l.flatMap fun q=>[q.num,(q.den:Int)]:=by
  unfold VagraLine.fracsTold
  rw [List.flatMap_map]
  rfl
 rw [e]
 rfl
end BM
namespace BM
open Vagrag (Act actsOf actTold)
noncomputable def cB (lens:List Nat):List Int→Option (List (List Int))
 | []=>some []
 | op::r=>if op < 0∨(lens.length:Int)≤op then none else if r.length < lens.getD op.toNat 0 - 1 then none
  else(cB lens (r.drop (lens.getD op.toNat 0 - 1))).map fun c=>(op::r.take (lens.getD op.toNat 0 - 1))::c
termination_by l=>l.length
decreasing_by simp only [List.length_drop,List.length_cons]; omega
theorem i9 (lens:List Nat):cB lens []=some []:=by unfold cB; rfl
theorem jD (lens:List Nat) (op:Int) (r:List Int):cB lens (op::r)=if op < 0∨(lens.length:Int)≤op then none else if r.length < lens.getD op.toNat 0 - 1 then none
  else(cB lens (r.drop (lens.getD op.toNat 0 - 1))).map fun c=>(op::r.take (lens.getD op.toNat 0 - 1))::c:=by
 conv=>lhs; unfold cB
noncomputable def L6 (lens:List Nat) (p:List Int):Prop:=∃(op:Int) (r:List Int),p=op::r∧0≤op∧op < (lens.length:Int)∧r.length=lens.getD op.toNat 0 - 1
theorem kT (lens:List Nat):∀(n:Nat) (l:List Int) (c:List (List Int)),l.length≤n→cB lens l=some c→(∀p∈c,L6 lens p)∧c.length≤l.length
 | _,[],c,_,h=>by
  rw [i9] at h
  have h:[]=c:=Option.some.inj h
  subst h
  exact⟨(fun p hp=>nomatch hp),Nat.le_refl _⟩
 | 0,op::r,c,hn,_=>absurd hn (by simp)
 | n+1,op::r,c,hn,h=>by
  rw [jD] at h
  by_cases h1:op < 0∨(lens.length:Int)≤op
  ·rw [if_pos h1] at h; cases h
  rw [if_neg h1] at h
  by_cases h2:r.length < lens.getD op.toNat 0 - 1
  ·rw [if_pos h2] at h; cases h
  rw [if_neg h2] at h
  cases hc:cB lens (r.drop (lens.getD op.toNat 0 - 1)) with
  | none=>rw [hc] at h; cases h
  | some d=>
   rw [hc] at h
   have h:(op::r.take (lens.getD op.toNat 0 - 1))::d=c:=Option.some.inj h
   have hr:r.length≤n:=by simpa using hn
   obtain⟨a,b⟩:=kT lens n _ d (by rw [List.length_drop]; omega) hc
   rw [←h]
   refine⟨fun p hp=>?_,?_⟩
   ·rcases List.mem_cons.mp hp with e | e
    ·exact⟨op,_,e,by omega,by omega,by rw [List.length_take]; omega⟩
    ·exact a p e
   ·rw [List.length_drop] at b
    simp only [List.length_cons]
    omega
noncomputable abbrev LENS:List Nat:=[2,3,3,3,3,3,2]
theorem De {op:Int} (h0:0≤op) (h6:op < 7):LENS.getD op.toNat 0=fj op:=by
 have:op=0∨op=1∨op=2∨op=3∨op=4∨op=5∨op=6:=by omega
 rcases this with rfl | rfl | rfl | rfl | rfl | rfl | rfl <;> rfl
theorem HB {l:List Int} {op:Int} {r:List Int} (e:l=op::r) (h:wfl l=true):r.length+1=fj op∧0≤op∧op≤6:=by
 subst e
 cases Jm h <;> exact⟨rfl,by decide,by decide⟩
theorem rS:∀(n:Nat) (l:List Int),l.length≤n→bI l=(cB LENS l).bind fun c=>if c.all wfl=true then some c else none
 | _,[],_=>by rw [jk,i9]; rfl
 | 0,op::r,hn=>absurd hn (by simp)
 | n+1,op::r,hn=>by
  rw [km,jD]
  by_cases h1:op < 0∨6 < op
  ·rw [if_pos h1,if_pos (by show op < 0∨(7:Int)≤op; omega)]; rfl
  have h1':¬(op < 0∨((LENS.length:Nat):Int)≤op):=by show¬(op < 0∨(7:Int)≤op); omega
  rw [if_neg h1,if_neg h1',De (by omega) (by omega)]
  obtain⟨m,hm⟩:∃m,fj op=m+1:=⟨fj op - 1,by have:=lJ op; omega⟩
  rw [hm,List.take_succ_cons,List.drop_succ_cons,Nat.add_sub_cancel]
  by_cases h2:r.length < m
  ·rw [if_pos h2,if_neg]
   ·rfl
   ·intro z
    obtain⟨a,_⟩:=HB rfl z
    rw [List.length_take] at a
    omega
  have hrn:r.length≤n:=by simpa using hn
  rw [if_neg h2,rS n (r.drop m) (by rw [List.length_drop]; omega)]
  by_cases hw:wfl (op::r.take m)=true
  ·rw [if_pos hw]
   cases cB LENS (r.drop m) with
   | none=>rfl
   | some c=>
    show Option.map _ (if c.all wfl=true then some c else none)=if ((op::r.take m)::c).all wfl=true then some ((op::r.take m)::c) else none
    rw [List.all_cons,hw,Bool.true_and]
    cases c.all wfl <;> rfl
  ·rw [if_neg hw]
   cases cB LENS (r.drop m) with
   | none=>rfl
   | some c=>
    show none=if ((op::r.take m)::c).all wfl=true then some ((op::r.take m)::c) else none
    rw [List.all_cons,show wfl (op::r.take m)=false by simpa using hw,Bool.false_and]
    rfl
noncomputable abbrev ALENS:List Nat:=[2,2,1,1]
noncomputable def bad (p:List Int):Bool:=p.any fun x=>decide (x < 0)
noncomputable def AC (x:Option (List (List Int))) (y:Option (List Act)):Prop:=(x=none∧y=none)∨∃c,x=some c∧((c.any bad=true∧y=none)∨(c.any bad=false∧∃a,y=some a∧c=a.map actTold))
theorem AC.ok {x:Option (List (List Int))} {y:Option (List Act)} (h:AC x y) {p:List Int} {b:Act} (hb:bad p=false) (hp:p=actTold b):AC (x.map fun c=>p::c) (y.map fun l=>b::l):=by
 rcases h with⟨rfl,rfl⟩ | ⟨c,rfl,h⟩
 ·exact .inl ⟨rfl,rfl⟩
 ·refine .inr ⟨_,rfl,?_⟩
  rw [List.any_cons,hb,Bool.false_or]
  rcases h with⟨h4,rfl⟩ | ⟨h4,a,rfl,rfl⟩
  ·exact .inl ⟨h4,rfl⟩
  ·exact .inr ⟨h4,_,rfl,by rw [List.map_cons,hp]⟩
theorem AC.no {x:Option (List (List Int))} {y:Option (List Act)} (h:AC x y) {p:List Int} (hb:bad p=true):AC (x.map fun c=>p::c) none:=by
 rcases h with⟨rfl,rfl⟩ | ⟨c,rfl,h⟩
 ·exact .inl ⟨rfl,rfl⟩
 ·exact .inr ⟨_,rfl,.inl ⟨by rw [List.any_cons,hb,Bool.true_or],rfl⟩⟩
theorem AC.num {x:Option (List (List Int))} {y:Option (List Act)} (h:AC x y) {op k:Int} {b:Nat→Act} (h0:¬op < 0) (hp:∀n:Nat,[op,(n:Int)]=actTold (b n)):AC (x.map fun c=>[op,k]::c) (if k < 0 then none else y.map fun l=>b k.toNat::l):=by
 have e:bad [op,k]=decide (k < 0):=by
  show(decide (op < 0) || (decide (k < 0) || false))=_
  rw [decide_eq_false h0,Bool.false_or,Bool.or_false]
 by_cases hk:k < 0
 ·rw [if_pos hk]
  exact h.no (e.trans (decide_eq_true hk))
 ·rw [if_neg hk]
  refine h.ok (e.trans (decide_eq_false hk)) ?_
  rw [←hp,Int.toNat_of_nonneg (Int.not_lt.mp hk)]
theorem Fg {op:Int} {r:List Int} (h:op < 0∨4≤op):actsOf (op::r)=none:=by
 have n:∀k:Int,0≤k→k≤3→¬op=k:=fun k h1 h2=>by omega
 delta Vagrag.actsOf
 delta List.brecOn
 suffices∀b,Vagrag.actsOf._f (op::r) b=none from this _
 intro b
 delta Vagrag.actsOf._f
 delta Vagrag.actsOf.match_1
 have n0:=n 0 (by decide) (by decide)
 have n1:=n 1 (by decide) (by decide)
 have n2:=n 2 (by decide) (by decide)
 have n3:=n 3 (by decide) (by decide)
 dsimp only
 rw [dif_neg n0,dif_neg n1,dif_neg n2,dif_neg n3]
theorem Jf:∀(n:Nat) (l:List Int),l.length≤n→AC (cB ALENS l) (actsOf l):=by
 intro n
 induction n with
 | zero=>
  intro l h
  cases l with
  | nil=>rw [i9]; exact .inr ⟨[],rfl,.inr ⟨rfl,[],rfl,rfl⟩⟩
  | cons a r=>exact absurd h (Nat.not_succ_le_zero _)
 | succ n ih=>
  intro l h
  cases l with
  | nil=>rw [i9]; exact .inr ⟨[],rfl,.inr ⟨rfl,[],rfl,rfl⟩⟩
  | cons op r=>
   have hr:r.length≤n:=Nat.le_of_succ_le_succ h
   clear h
   rw [jD]
   by_cases h1:op < 0∨((ALENS.length:Nat):Int)≤op
   ·rw [if_pos h1,Fg h1]
    exact .inl ⟨rfl,rfl⟩
   ·rw [if_neg h1]
    have h1:¬(op < 0∨(4:Int)≤op):=h1
    have:op=0∨op=1∨op=2∨op=3:=by omega
    clear h1
    rcases this with rfl | rfl | rfl | rfl
    ·cases r with
     | nil=>exact .inl ⟨rfl,rfl⟩
     | cons k s=>exact(ih s (Nat.le_of_succ_le hr)).num (b:=.take) (by decide) fun _=>rfl
    ·cases r with
     | nil=>exact .inl ⟨rfl,rfl⟩
     | cons k s=>exact(ih s (Nat.le_of_succ_le hr)).num (b:=.keep) (by decide) fun _=>rfl
    ·exact(ih r hr).ok (p:=[2]) (b:=.step) rfl rfl
    ·exact(ih r hr).ok (p:=[3]) (b:=.turn) rfl rfl
theorem Cv:∀(n:Nat) (l:List Int),l.length≤n→(cB ALENS l=none∧actsOf l=none)∨∃c,cB ALENS l=some c∧((c.any bad=true∧actsOf l=none)∨(c.any bad=false∧∃a,actsOf l=some a∧c=a.map actTold)):=Jf
end BM
namespace BM
open Vagraa (Frac)
open Vagrag (Act Game Chain Live)
noncomputable def fK (n left:Nat):List Nat:=(List.range (n - left)).map fun j=>n - 1 - j
theorem zQ (n:Nat):fK n n=[]:=by unfold fK; rw [Nat.sub_self]; rfl
theorem zP {n i:Nat} (h:i+1≤n):fK n i=fK n (i+1)++[i]:=by
 unfold fK
 rw [show n - i=(n - (i+1))+1 by omega,List.range_succ,List.map_append]
 show _++[n - 1 - (n - (i+1))]=_
 rw [show n - 1 - (n - (i+1))=i by omega]
structure GOk (n c:Nat) (g:Game):Prop where
 len:g.slots.length=c
 hand:∀i,g.hand=some i→i≤n
 slot:∀k i:Nat,g.slots[k]?= some (some i)→i≤n
 left:g.left≤n
theorem k3 (n c:Nat):GOk n c (Vagrag.begin n c) where
 len:=by show((List.range c).map _).length=c; rw [List.length_map,List.length_range]
 hand:=fun i h=>nomatch h
 slot:=fun k i h=>by
  have h:((List.range c).map fun k=>if k=0 then some 0 else none)[k]?= some (some i):=h
  rw [List.getElem?_map] at h
  cases e:(List.range c)[k]? with
  | none=>rw [e] at h; cases h
  | some j=>
   rw [e] at h
   have h:(if j=0 then some 0 else none)=some i:=Option.some.inj h
   split at h
   ·cases h; exact Nat.zero_le _
   ·cases h
 left:=Nat.le_refl _
noncomputable def be (n:Nat) (g:Game) (a:Act):Nat:=match Vagrag.act n g a with
 | .ok _=>0
 | .error e=>e
theorem vB {l:List (Option Nat)} {k i:Nat} (h:l.getD k none=some i):l[k]?= some (some i):=by
 rw [List.getD_eq_getElem?_getD] at h
 cases e:l[k]? with
 | none=>rw [e] at h; cases h
 | some x=>rw [e] at h; exact congrArg some h
theorem Cw {n c:Nat} {g g':Game} {a:Act} (o:GOk n c g) (h:Vagrag.act n g a=.ok g'):GOk n c g':=by
 cases a with
 | take k=>
  unfold Vagrag.act at h
  simp only at h
  split at h
  ·cases h
  ·split at h
   ·cases h
   ·rename_i i e
    cases h
    exact⟨o.len,fun j hj=>by cases hj; exact o.slot k _ (vB e),o.slot,o.left⟩
 | keep k=>
  unfold Vagrag.act at h
  simp only at h
  split at h
  ·cases h
  ·split at h
   ·cases h
   ·rename_i i e
    cases h
    refine⟨by show(g.slots.set k _).length=c; rw [List.length_set]; exact o.len,o.hand,fun j m hj=>?_,o.left⟩
    have hj:(g.slots.set k (some i))[j]?= some (some m):=hj
    rw [List.getElem?_set] at hj
    split at hj
    ·split at hj
     ·cases hj; exact o.hand _ e
     ·cases hj
    ·exact o.slot j m hj
 | step=>
  unfold Vagrag.act at h
  simp only at h
  split at h
  ·cases h
  ·rename_i i e
   split at h
   ·cases h
   ·cases h
    exact⟨o.len,fun j hj=>by cases hj; omega,o.slot,o.left⟩
 | turn=>
  unfold Vagrag.act at h
  simp only at h
  split at h
  ·cases h
  ·rename_i i e
   split at h
   ·cases h
    exact⟨o.len,o.hand,o.slot,o.hand _ e⟩
   ·cases h
inductive Does (n:Nat):Game→List Act→Game→Prop
 | nil (g:Game):Does n g [] g
 | cons {g g1 g2:Game} {a:Act} {r:List Act} (h:Vagrag.act n g a=.ok g1) (t:Does n g1 r g2):Does n g (a::r) g2
theorem Does.app {n:Nat} {g1 g2 g3:Game} {a b:List Act} (h:Does n g1 a g2) (h':Does n g2 b g3):Does n g1 (a++b) g3:=by
 induction h with
 | nil=>exact h'
 | cons e t ih=>exact .cons e (ih h')
theorem Does.play {n:Nat} {g g':Game} {l:List Act} (h:Does n g l g') (hl:g'.left=0):∀i,Vagrag.playFrom n i g l=.ok g':=by
 induction h with
 | nil g=>intro i; unfold Vagrag.playFrom; rw [if_pos hl]
 | cons e t ih=>intro i; unfold Vagrag.playFrom; rw [e]; exact ih hl (i+1)
theorem mT {n:Nat}:∀(m:Nat) (g:Game) (a:Nat),g.hand=some a→a+m≤n→∃g',Does n g (List.replicate m Act.step) g'∧g'.hand=some (a+m)∧g'.slots=g.slots∧g'.left=g.left
 | 0,g,a,h,_=>⟨g,.nil g,h,rfl,rfl⟩
 | m+1,g,a,h,hn=>by
  have e:Vagrag.act n g .step=.ok {g with hand:=some (a+1),forward:=g.forward+1}:=by
   unfold Vagrag.act
   simp only [h]
   rw [if_neg (by omega)]
  obtain⟨g',d,h1,h2,h3⟩:=mT (n:=n) m {g with hand:=some (a+1),forward:=g.forward+1} (a+1) rfl (by omega)
  exact⟨g',.cons e d,by rw [h1,show a+1+m=a+(m+1) by omega],h2,h3⟩
theorem o6 {n:Nat} {g:Game} {s a:Nat} (h:g.slots[s]?= some (some a)):Vagrag.act n g (.take s)=.ok {g with hand:=some a}:=by
 obtain⟨h1,h2⟩:=List.getElem?_eq_some_iff.mp h
 unfold Vagrag.act
 simp only
 rw [if_neg (by omega),List.getD_eq_getElem?_getD,h]
 rfl
theorem E6 {n:Nat} {g:Game} {s a:Nat} (h:g.hand=some a) (hs:s < g.slots.length):Vagrag.act n g (.keep s)=.ok {g with slots:=g.slots.set s (some a)}:=by
 unfold Vagrag.act
 simp only [h]
 rw [if_neg (by omega)]
theorem vD {n:Nat} {g:Game} {a:Nat} (h:g.hand=some a) (hl:g.left=a+1):Vagrag.act n g .turn=.ok {g with left:=a}:=by
 unfold Vagrag.act
 simp only [h]
 rw [if_pos hl.symm]
theorem tj {n s a:Nat}:∀(m:Nat) (g:Game),g.slots[s]?= some (some a)→g.left=a+m→a+m≤n→∃g',Does n g (((List.range m).reverse).flatMap fun i=>.take s::(List.replicate i Act.step++[.turn])) g'∧g'.slots=g.slots∧g'.left=a
 | 0,g,_,hl,_=>⟨g,.nil g,rfl,hl⟩
 | m+1,g,hs,hl,hn=>by
  obtain⟨g1,d1,h1,h2,h3⟩:=mT (n:=n) m {g with hand:=some a} a rfl (by omega:a+m≤n)
  have h3:g1.left=a+(m+1):=h3.trans hl
  have h2:g1.slots=g.slots:=h2
  have e2:=vD (n:=n) (g:=g1) (a:=a+m) h1 (by omega)
  obtain⟨g3,d3,h4,h5⟩:=tj (n:=n) m {g1 with left:=a+m} (by show g1.slots[s]?= _; rw [h2]; exact hs) rfl (by omega)
  refine⟨g3,?_,h4.trans h2,h5⟩
  rw [List.range_succ,List.reverse_append,List.reverse_singleton,List.singleton_append,List.flatMap_cons]
  exact .app (.cons (o6 hs) (.app d1 (.cons e2 (.nil _)))) d3
theorem j9 {n c:Nat} (h:2≤n):1≤Vagrag.split n c∧Vagrag.split n c≤n - 1:=by
 unfold Vagrag.split
 simp only
 cases e:(List.range (n - 1)).find? fun i=>decide (Vagrag.partCost (Vagrag.row n (c - 1)) (Vagrag.row n c) n (i+1)=(Vagrag.row n c).getD n 0) with
 | none=>exact⟨Nat.le_refl _,by show 0+1≤n - 1; omega⟩
 | some j=>
  have:=List.mem_range.mp (List.mem_of_find?_eq_some e)
  exact⟨by show 1≤j+1; omega,by show j+1≤n - 1; omega⟩
theorem mU {n:Nat}:∀(f m s a:Nat) (free:List Nat) (g:Game),m < f→g.slots[s]?= some (some a)→g.left=a+m→a+m≤n→s∉free→free.Nodup→(∀x∈free,x < g.slots.length)→
  ∃g',Does n g (Vagrag.schedFrom f m s free) g'∧g'.left=a∧g'.slots.length=g.slots.length∧∀k,k∉free→g'.slots[k]?= g.slots[k]?
 | 0,m,s,a,free,g,hf,_,_,_,_,_,_=>absurd hf (Nat.not_lt_zero _)
 | f+1,m,s,a,free,g,hf,hs,hl,hn,hsf,hnd,hlt=>by
  unfold Vagrag.schedFrom
  by_cases h0:m=0
  ·rw [if_pos h0]
   exact⟨g,.nil g,by omega,rfl,fun _ _=>rfl⟩
  rw [if_neg h0]
  by_cases h1:m=1
  ·rw [if_pos h1]
   have e2:=vD (n:=n) (g:={g with hand:=some a}) (a:=a) rfl (by show g.left=a+1; omega)
   exact⟨_,.cons (o6 hs) (.cons e2 (.nil _)),rfl,rfl,fun _ _=>rfl⟩
  rw [if_neg h1]
  cases free with
  | nil=>
   obtain⟨g',d,h2,h3⟩:=tj (n:=n) m g hs hl hn
   exact⟨g',d,h3,by rw [h2],fun k _=>by rw [h2]⟩
  | cons x rest=>
   obtain⟨p1,p2⟩:=j9 (n:=m) (c:=(x::rest).length+1) (by omega)
   simp only
   generalize Vagrag.split m ((x::rest).length+1)=q at p1 p2
   obtain⟨g1,d1,a1,a2,a3⟩:=mT (n:=n) q {g with hand:=some a} a rfl (by omega:a+q≤n)
   have a2:g1.slots=g.slots:=a2
   have a3:g1.left=a+m:=a3.trans hl
   have hx:x < g.slots.length:=hlt x (List.mem_cons_self ..)
   have e2:=E6 (n:=n) (g:=g1) (s:=x) (a:=a+q) a1 (by rw [a2]; exact hx)
   have hnd':=List.nodup_cons.mp hnd
   have hsx:s≠x:=fun z=>hsf (by rw [z]; exact List.mem_cons_self ..)
   obtain⟨g2,d2,b1,b2,b3⟩:=mU (n:=n) f (m - q) x (a+q) rest {g1 with slots:=g1.slots.set x (some (a+q))} (by omega) (by show(g1.slots.set x _)[x]?= _; rw [a2,List.getElem?_set_self hx]) (by show g1.left=_; omega) (by omega) hnd'.1 hnd'.2
    (fun y hy=>by show y < (g1.slots.set x _).length; rw [List.length_set,a2]; exact hlt y (List.mem_cons_of_mem _ hy))
   have b2:g2.slots.length=g.slots.length:=by rw [b2]; show(g1.slots.set x _).length=_; rw [List.length_set,a2]
   have b3:∀k,k∉x::rest→g2.slots[k]?= g.slots[k]?:=fun k hk=>by
    rw [b3 k fun z=>hk (List.mem_cons_of_mem _ z)]
    show(g1.slots.set x _)[k]?= _
    rw [a2,List.getElem?_set_ne fun z=>hk (by rw [←z]; exact List.mem_cons_self ..)]
   obtain⟨g3,d3,c1,c2,c3⟩:=mU (n:=n) f q s a (x::rest) g2 (by omega) (by rw [b3 s hsf]; exact hs) b1 (by omega) hsf hnd (fun y hy=>by rw [b2]; exact hlt y hy)
   refine⟨g3,?_,c1,c2.trans b2,fun k hk=>(c3 k hk).trans (b3 k hk)⟩
   exact .app (.cons (o6 hs) (.app d1 (.cons e2 (.nil _)))) (.app d2 d3)
theorem pM {n c:Nat} (hc:1≤c):∃g,Vagrag.play n c (Vagrag.schedule n c)=.ok g:=by
 have h0:(Vagrag.begin n c).slots[0]?= some (some 0):=by
  show((List.range c).map fun k=>if k=0 then some 0 else none)[0]?= _
  rw [List.getElem?_map,List.getElem?_range (by omega)]
  rfl
 obtain⟨g',d,h1,_⟩:=mU (n:=n) (n+1) n 0 0 ((List.range (c - 1)).map fun i=>i+1) (Vagrag.begin n c) (by omega) h0 (by show n=0+n; omega) (by omega)
  (fun z=>by obtain⟨i,_,e⟩:=List.mem_map.mp z; omega)
  (by rw [List.nodup_iff_pairwise_ne,List.pairwise_map]; exact(List.nodup_range (n:=c - 1)).imp fun h z=>h (by omega))
  (fun x hx=>by
   obtain⟨i,hi,e⟩:=List.mem_map.mp hx
   have:=List.mem_range.mp hi
   rw [(k3 n c).len]
   omega)
 exact⟨g',d.play h1 0⟩
end BM
namespace BM
open Vagraa (Frac)
open Vagrag (Act Game Chain Live)
section
variable {c:Chain} (hl:∀l∈c.code,Low l) {n:Nat} {x:List Rat} {vss:List (List Rat)} (ht:bn c.code c.outs n 0 x=.ok vss)
noncomputable def t9 (outs:List Nat) (x:List Rat) (vss:List (List Rat)) (i:Nat):List Frac:=((x::vss.map (aY outs)).map (List.map aB)).getD i []
structure Live.Of (c:Chain) (n:Nat) (x:List Rat) (vss:List (List Rat)) (w:List Rat) (g:Game) (L:Live):Prop where
 slots:L.slots=g.slots.map (Option.map fun i=>(i,t9 c.outs x vss i))
 hand:L.hand=g.hand.map fun i=>(i,t9 c.outs x vss i)
 wts:∃W:List Rat,L.weights=W.map aB∧dc c.code c.outs c.size vss g.left W=dc c.code c.outs c.size vss n w
include hl ht
theorem HI {i:Nat} (hi:i < n):c.step i (t9 c.outs x vss i)=.ok (t9 c.outs x vss (i+1)):=by
 obtain⟨h1,h2⟩:=dM ht
 have hv:vss[i]?= some (vss.getD i []):=by rw [List.getD_eq_getElem?_getD,List.getElem?_eq_getElem (by omega)]; rfl
 have:=h2 i _ hv
 rw [Nat.zero_add] at this
 unfold t9
 rw [lL (by rw [List.length_cons,List.length_map]; omega),yB c hl,this,lL (by rw [List.length_cons,List.length_map]; omega)]
 show Except.ok ((aY c.outs (vss.getD i [])).map aB)=.ok (((vss.map (aY c.outs)).getD i []).map aB)
 rw [List.getD_eq_getElem?_getD (l:=vss.map (aY c.outs)),List.getElem?_map,hv]
 rfl
theorem G9 {k:Nat} {w:List Rat} {g g':Game} {L:Live} {a:Act} (o:GOk n k g) (r:Live.Of c n x vss w g L) (h:Vagrag.act n g a=.ok g'):Live.Of c n x vss w g' (c.act L a):=by
 cases a with
 | take j=>
  unfold Vagrag.act at h
  simp only at h
  split at h
  ·cases h
  ·split at h
   ·cases h
   ·rename_i i e
    cases h
    refine⟨r.slots,?_,r.wts⟩
    show L.slots.getD j none=some (i,_)
    rw [r.slots,List.getD_eq_getElem?_getD,List.getElem?_map,vB e]
    rfl
 | keep j=>
  unfold Vagrag.act at h
  simp only at h
  split at h
  ·cases h
  ·split at h
   ·cases h
   ·rename_i i e
    cases h
    refine⟨?_,r.hand,r.wts⟩
    show L.slots.set j L.hand=(g.slots.set j (some i)).map _
    rw [r.slots,r.hand,e,List.map_set]
 | step=>
  unfold Vagrag.act at h
  simp only at h
  split at h
  ·cases h
  ·rename_i i e
   split at h
   ·cases h
   ·rename_i hi
    cases h
    have eh:L.hand=some (i,t9 c.outs x vss i):=by rw [r.hand,e]; rfl
    have es:=HI hl ht (by omega:i < n)
    have ea:c.act L .step={L with hand:=some (i+1,t9 c.outs x vss (i+1))}:=by
     unfold Chain.act
     simp only [eh,es]
    rw [ea]
    exact⟨r.slots,rfl,r.wts⟩
 | turn=>
  unfold Vagrag.act at h
  simp only at h
  split at h
  ·cases h
  ·rename_i i e
   split at h
   ·rename_i hi
    cases h
    have eh:L.hand=some (i,t9 c.outs x vss i):=by rw [r.hand,e]; rfl
    obtain⟨W,h1,h2⟩:=r.wts
    have hin:i < n:=by have:=o.left; omega
    have ea:c.act L .turn={L with left:=i,weights:=c.turned i (t9 c.outs x vss i) L.weights}:=by
     unfold Chain.act
     simp only [eh]
    rw [ea]
    refine⟨r.slots,r.hand,fS c.code c.outs c.size (vss.getD i []) W,?_,?_⟩
    ·show c.turned i (t9 c.outs x vss i) L.weights=_
     rw [h1]
     exact rb c i _ (vss.getD i []) W (om hl ht hin)
    ·rw [←h2,←hi]
     rfl
   ·cases h
theorem l9 {k:Nat} {w:List Rat} {g':Game}:∀(l:List Act) (i:Nat) (g:Game) (L:Live),GOk n k g→Live.Of c n x vss w g L→Vagrag.playFrom n i g l=.ok g'→(l.foldl c.act L).weights=(dc c.code c.outs c.size vss n w).map aB
 | [],i,g,L,o,r,h=>by
  unfold Vagrag.playFrom at h
  split at h
  ·rename_i h0
   obtain⟨W,h1,h2⟩:=r.wts
   rw [←h2,h0]
   exact h1
  ·cases h
 | a::rest,i,g,L,o,r,h=>by
  unfold Vagrag.playFrom at h
  cases e:Vagrag.act n g a with
  | error z=>rw [e] at h; cases h
  | ok g1=>
   rw [e] at h
   exact l9 rest (i+1) g1 (c.act L a) (Cw o e) (G9 hl ht o r e) h
theorem mB {k:Nat} {w:List Rat} {g':Game} {l:List Act} (h:Vagrag.play n k l=.ok g'):c.played n k (x.map aB) (w.map aB) l=(dc c.code c.outs c.size vss n w).map aB:=by
 refine l9 hl ht l 0 (Vagrag.begin n k) _ (k3 n k) ⟨?_,rfl,w,rfl,rfl⟩ h
 show _=((List.range k).map fun j=>if j=0 then some 0 else none).map _
 rw [List.map_map]
 refine List.map_congr_left fun j _=>?_
 show _=Option.map _ (if j=0 then some 0 else none)
 by_cases hj:j=0
 ·rw [if_pos hj,if_pos hj]; rfl
 ·rw [if_neg hj,if_neg hj]; rfl
end
noncomputable def pX (free c:Nat):List Nat:=(List.range (c - free)).map fun i=>i+free
theorem EN (free c:Nat):(pX free c).length=c - free:=by unfold pX; rw [List.length_map,List.length_range]
theorem BS {free c:Nat} (h:free < c):pX free c=free::pX (free+1) c:=by
 unfold pX
 rw [show c - free=(c - (free+1))+1 by omega,List.range_succ_eq_map,List.map_cons,List.map_map]
 refine congr (congrArg _ (Nat.zero_add _)) (List.map_congr_left fun i _=>?_)
 show i+1+free=i+(free+1)
 omega
theorem EM {c:Nat}:pX c c=[]:=by unfold pX; rw [Nat.sub_self]; rfl
theorem eC:∀(f g n s:Nat) (free:List Nat),n < f→n < g→Vagrag.schedFrom f n s free=Vagrag.schedFrom g n s free
 | 0,g,n,s,free,h,_=>absurd h (Nat.not_lt_zero _)
 | f+1,0,n,s,free,_,h=>absurd h (Nat.not_lt_zero _)
 | f+1,g+1,n,s,free,hf,hg=>by
  unfold Vagrag.schedFrom
  by_cases h0:n=0
  ·rw [if_pos h0,if_pos h0]
  rw [if_neg h0,if_neg h0]
  by_cases h1:n=1
  ·rw [if_pos h1,if_pos h1]
  rw [if_neg h1,if_neg h1]
  cases free with
  | nil=>rfl
  | cons x rest=>
   obtain⟨p1,p2⟩:=j9 (n:=n) (c:=(x::rest).length+1) (by omega)
   simp only
   generalize Vagrag.split n ((x::rest).length+1)=q at p1 p2
   rw [eC f g (n - q) x rest (by omega) (by omega),eC f g q s (x::rest) (by omega) (by omega)]
structure uS where
 len:Nat
 slot:Nat
 free:Nat
noncomputable def dS (c:Nat) (t:uS):List Act:=Vagrag.schedFrom (t.len+1) t.len t.slot (pX t.free c)
noncomputable def jR (s n:Nat):List Act:=((List.range n).reverse).flatMap fun i=>.take s::(List.replicate i Act.step++[.turn])
theorem t8 {c:Nat} {t:uS} (h:1≤t.len) (hc:t.len=1∨t.free=c):dS c t=jR t.slot t.len:=by
 unfold dS Vagrag.schedFrom
 rw [if_neg (by omega)]
 by_cases h1:t.len=1
 ·rw [if_pos h1,h1]; rfl
 ·rw [if_neg h1]
  have e:t.free=c:=by omega
  rw [e,EM]
  rfl
theorem vY {c:Nat} {t:uS} (h:2≤t.len) (hc:t.free < c):dS c t=(.take t.slot::(List.replicate (Vagrag.split t.len (c - t.free+1)) Act.step++[.keep t.free]))++(dS c ⟨t.len - Vagrag.split t.len (c - t.free+1),t.free,t.free+1⟩++dS c ⟨Vagrag.split t.len (c - t.free+1),t.slot,t.free⟩):=by
 conv=>lhs; unfold dS Vagrag.schedFrom
 rw [if_neg (by omega),if_neg (by omega)]
 have e:=BS hc
 have el:=EN t.free c
 rw [e] at el⊢
 simp only [el]
 obtain⟨p1,p2⟩:=j9 (n:=t.len) (c:=c - t.free+1) h
 unfold dS
 simp only [e]
 rw [eC t.len (t.len - Vagrag.split t.len (c - t.free+1)+1) _ _ _ (by omega) (by omega),eC t.len (Vagrag.split t.len (c - t.free+1)+1) _ _ _ (by omega) (by omega)]
theorem ow (n c:Nat):Vagrag.schedule n c=dS c ⟨n,0,1⟩:=rfl
noncomputable def p9 (ts:List uS):Nat:=(ts.map fun t=>2*t.len - 1).sum
theorem vL (s:Nat):∀n:Nat,(jR s n).length≤n*n+2*n
 | 0=>Nat.le_refl _
 | n+1=>by
  unfold jR
  rw [List.range_succ,List.reverse_append,List.reverse_singleton,List.singleton_append,List.flatMap_cons,List.length_append]
  have h:=vL s n
  unfold jR at h
  have e:(Act.take s::(List.replicate n Act.step++[Act.turn])).length=n+2:=by rw [List.length_cons,List.length_append,List.length_replicate]; rfl
  rw [e,Nat.add_mul]
  rw [Nat.mul_add]
  omega
theorem ox:∀(f n s:Nat) (free:List Nat),n < f→1≤n→(Vagrag.schedFrom f n s free).length+2≤n*n+3*n
 | 0,n,s,free,h,_=>absurd h (Nat.not_lt_zero _)
 | f+1,n,s,free,hf,h1=>by
  unfold Vagrag.schedFrom
  rw [if_neg (by omega)]
  by_cases h2:n=1
  ·rw [if_pos h2,h2]; exact Nat.le_refl 4
  rw [if_neg h2]
  cases free with
  | nil=>
   have:=vL s n
   unfold jR at this
   show(List.flatMap _ _).length+2≤_
   omega
  | cons x rest=>
   obtain⟨p1,p2⟩:=j9 (n:=n) (c:=(x::rest).length+1) (by omega)
   simp only
   generalize Vagrag.split n ((x::rest).length+1)=q at p1 p2
   obtain⟨d,rfl⟩:∃d,n=q+d:=⟨n - q,by omega⟩
   rw [Nat.add_sub_cancel_left,List.length_append,List.length_append]
   have a1:=ox f d x rest (by omega) (by omega)
   have a2:=ox f q s (x::rest) (by omega) (by omega)
   have e:(Act.take s::(List.replicate q Act.step++[Act.keep x])).length=q+2:=by rw [List.length_cons,List.length_append,List.length_replicate]; rfl
   rw [e,Nat.add_mul,Nat.mul_add,Nat.mul_add]
   have e2:q*1≤q*d:=Nat.mul_le_mul_left q (by omega)
   have e3:d*q=q*d:=Nat.mul_comm ..
   omega
theorem gq {n c:Nat} (h:1≤n) (h':n≤60):(Vagrag.schedule n c).length≤3780:=by
 have:=ox (n+1) n 0 ((List.range (c - 1)).map fun i=>i+1) (by omega) h
 unfold Vagrag.schedule
 have e:n*n≤60*60:=Nat.mul_le_mul h' h'
 omega
theorem iP (a b:List uS):p9 (a++b)=p9 a+p9 b:=by unfold p9; rw [List.map_append,List.sum_append]
theorem xY:∀(l:List uS),(∀t∈l,1≤t.len)→l.length≤p9 l
 | [],_=>Nat.le_refl _
 | t::r,h=>by
  have h1:=xY r fun x hx=>h x (List.mem_cons_of_mem _ hx)
  have h2:=h t (List.mem_cons_self ..)
  show r.length+1≤(2*t.len - 1)+p9 r
  omega
theorem Ct (n:Nat):Vagrag.alone n≤Vagrag.alone (n+1):=by
 unfold Vagrag.alone
 refine Nat.div_le_div_right ?_
 exact Nat.mul_le_mul (Nat.le_succ n) (by omega)
theorem pB {N n:Nat} (h:n≤N):((List.range (N+1)).map Vagrag.alone).getD n 0=Vagrag.alone n:=by
 rw [List.getD_eq_getElem?_getD,List.getElem?_map,List.getElem?_range (by omega)]
 rfl
theorem CY (N:Nat) {c:Nat} (h:c≤1):Vagrag.row N c=(List.range (N+1)).map Vagrag.alone:=by
 match c,h with
 | 0,_=>rfl
 | 1,_=>rfl
theorem FX {N c n:Nat} (hc:1≤c) (hn:n≤1) (hN:1≤N):(Vagrag.row N c).getD n 0=0:=by
 by_cases h1:c≤1
 ·rw [CY N h1,pB (by omega)]
  match n,hn with
  | 0,_=>rfl
  | 1,_=>rfl
 ·obtain⟨d,rfl⟩:∃d,c=d+2:=⟨c - 2,by omega⟩
  show(Vagrag.rowFrom (Vagrag.row N (d+1)) (N+1) []).getD n 0=0
  have e:=eJ (Vagrag.row N (d+1)) (f:=2) (g:=N+1) (by omega)
  rw [←em (n:=2) (by omega),e]
  match n,hn with
  | 0,_=>rfl
  | 1,_=>rfl
theorem yW {N:Nat}:∀(c n:Nat),1≤c→n+1≤N→(Vagrag.row N c).getD n 0≤(Vagrag.row N c).getD (n+1) 0
 | 0,n,h,_=>absurd h (by decide)
 | 1,n,_,hn=>by
  rw [CY N (Nat.le_refl _),pB (by omega),pB hn]
  exact Ct n
 | c+2,n,_,hn=>by
  by_cases h1:n≤1
  ·rw [FX (by omega) h1 (by omega)]; exact Nat.zero_le _
  have e1:=oB (N:=N) (n:=n) (c:=c+2) (by omega) (by omega) (by omega)
  have e2:=oB (N:=N) (n:=n+1) (c:=c+2) (by omega) (by omega) (by omega)
  rw [show c+2 - 1=c+1 by omega] at e1 e2
  have hne:cQ (Vagrag.row N (c+1)) (Vagrag.row N (c+2)) (n+1)≠[]:=fun z=>by
   have:=congrArg List.length z
   unfold cQ at this
   rw [List.length_map,List.length_range] at this
   have:n+1 - 1=0:=this
   omega
  obtain⟨m1,_⟩:=fY _ hne
  rw [←e2] at m1
  obtain⟨i,hi,e3⟩:=List.mem_map.mp m1
  have hi:=List.mem_range.mp hi
  rw [←e3]
  unfold Vagrag.partCost
  by_cases hin:i+1 < n
  ·have hne2:cQ (Vagrag.row N (c+1)) (Vagrag.row N (c+2)) n≠[]:=fun z=>by
    have:=congrArg List.length z
    unfold cQ at this
    rw [List.length_map,List.length_range] at this
    have:n - 1=0:=this
    omega
   obtain⟨_,m2⟩:=fY _ hne2
   rw [←e1] at m2
   have m3:=m2 (Vagrag.partCost (Vagrag.row N (c+1)) (Vagrag.row N (c+2)) n (i+1)) (List.mem_map.mpr ⟨i,List.mem_range.mpr (by omega),rfl⟩)
   unfold Vagrag.partCost at m3
   have m4:=yW (N:=N) (c+1) (n - (i+1)) (by omega) (by omega)
   rw [show n - (i+1)+1=n+1 - (i+1) by omega] at m4
   omega
  ·have e:i+1=n:=by omega
   rw [e]
   omega
theorem u4 {N c:Nat} (hc:1≤c) {n:Nat}:∀{m:Nat},n≤m→m≤N→(Vagrag.row N c).getD n 0≤(Vagrag.row N c).getD m 0
 | 0,h,_=>by rw [show n=0 by omega]; exact Nat.le_refl _
 | m+1,h,hm=>by
  by_cases e:n=m+1
  ·rw [e]; exact Nat.le_refl _
  ·exact Nat.le_trans (u4 hc (by omega) (by omega)) (yW c m hc hm)
theorem lZ {p:Nat→Bool}:∀(l:List Nat) (k:Nat),(∀j x,j < k→l[j]?= some x→p x=true)→(k < l.length→∃x,l[k]?= some x∧p x=false)→k≤l.length→(l.takeWhile p).length=k
 | [],k,_,_,h=>by have:k=0:=by simpa using h
                  rw [this]; rfl
 | y::r,0,_,h,_=>by
  obtain⟨x,hx,hp⟩:=h (by simp)
  have e:y=x:=by simpa using hx
  rw [List.takeWhile_cons,e,hp]
  rfl
 | y::r,k+1,h1,h2,h3=>by
  rw [List.takeWhile_cons,h1 0 y (by omega) rfl,if_pos rfl,List.length_cons]
  rw [lZ r k (fun j x hj hx=>h1 (j+1) x (by omega) (by simpa using hx)) (fun hk=>by simpa using h2 (by simpa using hk)) (by simpa using h3)]
theorem Gi {c t m:Nat} (hc:1≤c) (hm:m≤60) (h1:(Vagrag.row 60 c).getD m 0≤t) (h2:∀y,y≤60→(Vagrag.row 60 c).getD y 0≤t→y≤m):
  (((Vagrag.row Vagrag.FAR c).drop 1).takeWhile fun x=>decide (x≤t)).length=m:=by
 have hlen:(Vagrag.row 60 c).length=61:=jj 60 c
 have hget:∀j,j < 60→((Vagrag.row 60 c).drop 1)[j]?= some ((Vagrag.row 60 c).getD (j+1) 0):=fun j hj=>by
  rw [List.getElem?_drop,List.getD_eq_getElem?_getD,Nat.add_comm 1 j,List.getElem?_eq_getElem (by omega)]
  rfl
 refine lZ _ m (fun j x hj hx=>?_) (fun hk=>?_) ?_
 ·have hx:((Vagrag.row 60 c).drop 1)[j]?= some x:=hx
  rw [hget j (by omega)] at hx
  have hx:=Option.some.inj hx
  rw [←hx]
  exact decide_eq_true (Nat.le_trans (u4 hc (by omega:j+1≤m) hm) h1)
 ·have hk:m < ((Vagrag.row 60 c).drop 1).length:=hk
  rw [List.length_drop,hlen] at hk
  refine⟨_,hget m (by omega),decide_eq_false fun z=>?_⟩
  have:=h2 (m+1) (by omega) z
  omega
 ·show m≤((Vagrag.row 60 c).drop 1).length
  rw [List.length_drop,hlen]
  exact hm
end BM
namespace BM
noncomputable abbrev HK:List (List Int):=[[1,2],[1,1],[1,0],[0,1],[0,1],[2,0],[2,0],[2,0],[2,0],[2,0],[2,1],[1,2],[1,1]]
theorem Gu {c:Prop} [Decidable c] {α:Type} {x y:α} {e:Option α} (h:(if c then some x else e)=some y):(c∧x=y)∨e=some y:=by
 by_cases q:c
 ·rw [if_pos q] at h; exact .inl ⟨q,Option.some.inj h⟩
 ·rw [if_neg q] at h; exact .inr h
theorem bV {c:Prop} [Decidable c] {α:Type} {x y:α} {e:Option α} {P:Prop} (h:(if c then some x else e)=some y) (h1:c→x=y→P) (h2:e=some y→P):P:=(Gu h).elim (fun h=>h1 h.1 h.2) h2
noncomputable def shF (q:Nat×Nat):Option (List Int):=some [(q.1:Int),(q.2:Int)]
theorem yO {p:Int} {a b:Nat} (h:PyVagrag.shape p=some (a,b)):∃j:Nat,p=(j:Int)∧HK[j]?= some [(a:Int),(b:Int)]:=by
 unfold PyVagrag.shape at h
 refine bV h (fun e h=>⟨0,e,congrArg shF h⟩) fun h=>?_
 refine bV h (fun e h=>⟨1,e,congrArg shF h⟩) fun h=>?_
 refine bV h (fun e h=>⟨2,e,congrArg shF h⟩) fun h=>?_
 refine bV h (fun e h=>⟨3,e,congrArg shF h⟩) fun h=>?_
 refine bV h (fun e h=>⟨4,e,congrArg shF h⟩) fun h=>?_
 refine bV h (fun e h=>⟨5,e,congrArg shF h⟩) fun h=>?_
 refine bV h (fun e h=>⟨6,e,congrArg shF h⟩) fun h=>?_
 refine bV h (fun e h=>⟨7,e,congrArg shF h⟩) fun h=>?_
 refine bV h (fun e h=>⟨8,e,congrArg shF h⟩) fun h=>?_
 refine bV h (fun e h=>⟨9,e,congrArg shF h⟩) fun h=>?_
 refine bV h (fun e h=>⟨10,e,congrArg shF h⟩) fun h=>?_
 refine bV h (fun e h=>⟨11,e,congrArg shF h⟩) fun h=>?_
 refine bV h (fun e h=>⟨12,e,congrArg shF h⟩) fun h=>?_
 cases h
theorem yN {p:Int} {a b:Nat} (h:PyVagrag.shape p=some (a,b)):a≤2∧b≤2:=by
 obtain⟨j,_,h⟩:=yO h
 have:=List.mem_of_getElem? h
 simp only [List.mem_cons,List.cons.injEq,and_true,List.not_mem_nil,or_false] at this
 omega
noncomputable def Sml (ns:List Int):Prop:=∀z∈ns,-(10 ^ 18)≤z∧z≤10 ^ 18
theorem rC {l:List Int} (h:l.all (fun (z:Int)=>VagragNeutral.whole60 z)=true):Sml l:=fun z hz=>by
 have:=List.all_eq_true.mp h z hz
 unfold VagragNeutral.whole60 at this
 rw [Bool.and_eq_true] at this
 exact⟨of_decide_eq_true this.1,of_decide_eq_true this.2⟩
inductive Shp:Int→List Int→List (List Int)→Prop
 | c0 s l o:Shp 0 [s] [l,o] | c1 n x:Shp 1 [n] [x] | c2 i:Shp 2 [i] [] | c3 w:Shp 3 [] [w] | c4 d:Shp 4 [] [d]
 | c5 n k:Shp 5 [n,k] [] | c6 n k:Shp 6 [n,k] [] | c7 n k:Shp 7 [n,k] [] | c8 n k:Shp 8 [n,k] [] | c9 n k:Shp 9 [n,k] []
 | c10 n k l:Shp 10 [n,k] [l] | c11 k l w:Shp 11 [k] [l,w] | c12 k w:Shp 12 [k] [w]
theorem Kk {α:Type} {l:List α} (h:l.length=0):l=[]:=List.length_eq_zero_iff.mp h
theorem EG {α:Type} {l:List α} (h:l.length=1):∃a,l=[a]:=List.length_eq_one_iff.mp h
theorem Kj {α:Type}:∀{l:List α},l.length=2→∃a b,l=[a,b]
 | [a,b],_=>⟨a,b,rfl⟩
theorem Lg {P:List Int→List (List Int)→Prop} (k:∀s l o,P [s] [l,o]) {zs xs} (h:zs.length=1∧xs.length=2):P zs xs:=by
 obtain⟨_,rfl⟩:=EG h.1; obtain⟨_,_,rfl⟩:=Kj h.2; exact k ..
theorem Lh {P:List Int→List (List Int)→Prop} (k:∀s l,P [s] [l]) {zs xs} (h:zs.length=1∧xs.length=1):P zs xs:=by
 obtain⟨_,rfl⟩:=EG h.1; obtain⟨_,rfl⟩:=EG h.2; exact k ..
theorem Mu {P:List Int→List (List Int)→Prop} (k:∀s,P [s] []) {zs xs} (h:zs.length=1∧xs.length=0):P zs xs:=by
 obtain⟨_,rfl⟩:=EG h.1; cases Kk h.2; exact k ..
theorem Li {P:List Int→List (List Int)→Prop} (k:∀l,P [] [l]) {zs xs} (h:zs.length=0∧xs.length=1):P zs xs:=by
 cases Kk h.1; obtain⟨_,rfl⟩:=EG h.2; exact k ..
theorem FQ {P:List Int→List (List Int)→Prop} (k:∀s t,P [s,t] []) {zs xs} (h:zs.length=2∧xs.length=0):P zs xs:=by
 obtain⟨_,_,rfl⟩:=Kj h.1; cases Kk h.2; exact k ..
theorem Mt {P:List Int→List (List Int)→Prop} (k:∀s t l,P [s,t] [l]) {zs xs} (h:zs.length=2∧xs.length=1):P zs xs:=by
 obtain⟨_,_,rfl⟩:=Kj h.1; obtain⟨_,rfl⟩:=EG h.2; exact k ..
theorem FO {p:Int} {a b:Nat} (h:PyVagrag.shape p=some (a,b)) {zs:List Int} {xs:List (List Int)} (hz:zs.length=a) (hx:xs.length=b):Shp p zs xs:=by
 unfold PyVagrag.shape at h
 have z:∀{u v:Nat},(u,v)=(a,b)→zs.length=u∧xs.length=v:=fun e=>by injection e with e1 e2; exact⟨hz.trans e1.symm,hx.trans e2.symm⟩
 clear hz hx
 refine bV h (fun e g=>e▸Lg .c0 (z g)) fun h=>?_
 refine bV h (fun e g=>e▸Lh .c1 (z g)) fun h=>?_
 refine bV h (fun e g=>e▸Mu .c2 (z g)) fun h=>?_
 refine bV h (fun e g=>e▸Li .c3 (z g)) fun h=>?_
 refine bV h (fun e g=>e▸Li .c4 (z g)) fun h=>?_
 refine bV h (fun e g=>e▸FQ .c5 (z g)) fun h=>?_
 refine bV h (fun e g=>e▸FQ .c6 (z g)) fun h=>?_
 refine bV h (fun e g=>e▸FQ .c7 (z g)) fun h=>?_
 refine bV h (fun e g=>e▸FQ .c8 (z g)) fun h=>?_
 refine bV h (fun e g=>e▸FQ .c9 (z g)) fun h=>?_
 refine bV h (fun e g=>e▸Mt .c10 (z g)) fun h=>?_
 refine bV h (fun e g=>e▸Lg .c11 (z g)) fun h=>?_
 refine bV h (fun e g=>e▸Lh .c12 (z g)) fun h=>?_
 cases h
theorem DP {p:Int} {zs:List Int} {xs:List (List Int)} (h:Shp p zs xs):PyVagrag.whole ((p::zs)::xs)=(p::zs)::xs:=by
 cases h <;> rfl
theorem bl {a b:Bool} (h:(a && b)=true):a=true:=((Bool.and_eq_true a b).mp h).1
theorem br {a b:Bool} (h:(a && b)=true):b=true:=((Bool.and_eq_true a b).mp h).2
theorem tJ {f:Nat} {p:Int} {r:List Int} {cs:List (List (List Int))} (h:PyFlat.calls PyVagrag.shape f (p::r)=some cs):
  ∃(f' a b:Nat) (xs:List (List Int)) (t:List Int) (cs':List (List (List Int))),PyVagrag.shape p=some (a,b)∧a≤r.length∧PyFlat.rows b (r.drop a)=some (xs,t)∧PyFlat.calls PyVagrag.shape f' t=some cs'∧cs=((p::r.take a)::xs)::cs':=by
 cases f with
 | zero=>cases h
 | succ f=>
  unfold PyFlat.calls at h
  cases hc:PyFlat.call PyVagrag.shape (p::r) with
  | none=>rw [hc] at h; cases h
  | some ct=>
   obtain⟨c,t⟩:=ct
   rw [hc] at h
   simp only at h
   cases hcs:PyFlat.calls PyVagrag.shape f t with
   | none=>rw [hcs] at h; cases h
   | some cs'=>
    rw [hcs] at h
    have h:c::cs'=cs:=Option.some.inj h
    unfold PyFlat.call at hc
    simp only at hc
    cases hs:PyVagrag.shape p with
    | none=>rw [hs] at hc; cases hc
    | some ab=>
     obtain⟨a,b⟩:=ab
     rw [hs] at hc
     simp only at hc
     split at hc
     ·cases hc
     rename_i hle
     cases hr:PyFlat.rows b (r.drop a) with
     | none=>rw [hr] at hc; cases hc
     | some xt=>
      obtain⟨xs,t'⟩:=xt
      rw [hr] at hc
      simp only at hc
      have hc:=Option.some.inj hc
      injection hc with h1 h2
      subst h1 h2
      exact⟨f,a,b,xs,t',cs',rfl,by omega,hr,hcs,h.symm⟩
theorem vE {f:Nat} {cs:List (List (List Int))} (h:PyFlat.calls PyVagrag.shape f []=some cs):cs=[]:=by
 have h:some []=some cs:=by rw [←h]; unfold PyFlat.calls; cases f <;> rfl
 exact(Option.some.inj h).symm
theorem u1 {k:Nat} {l:List Int} {xs:List (List Int)} {t:List Int} (h:PyFlat.rows (k+1) l=some (xs,t)):∃(n:Nat) (r:List Int) (xs':List (List Int)),l=(n:Int)::r∧n≤r.length∧PyFlat.rows k (r.drop n)=some (xs',t)∧xs=r.take n::xs':=by
 unfold PyFlat.rows at h
 cases hr:PyFlat.row l with
 | none=>rw [hr] at h; cases h
 | some p=>
  obtain⟨x,s⟩:=p
  rw [hr] at h
  simp only at h
  cases hrs:PyFlat.rows k s with
  | none=>rw [hrs] at h; cases h
  | some q=>
   obtain⟨xs',t'⟩:=q
   rw [hrs] at h
   simp only at h
   have h:=Option.some.inj h
   injection h with h1 h2
   subst h1 h2
   unfold PyFlat.row at hr
   split at hr
   ·cases hr
   ·rename_i n r
    split at hr
    ·rename_i hn
     have hr:=Option.some.inj hr
     injection hr with h3 h4
     subst h3 h4
     exact⟨n.toNat,r,xs',by rw [Int.toNat_of_nonneg hn.1],hn.2,hrs,rfl⟩
    ·cases hr
theorem u0 {l:List Int} {xs:List (List Int)} {t:List Int} (h:PyFlat.rows 0 l=some (xs,t)):xs=[]∧t=l:=by
 unfold PyFlat.rows at h
 have h:=Option.some.inj h
 injection h with h1 h2
 exact⟨h1.symm,h2.symm⟩
theorem yV:∀{k:Nat} {l:List Int} {xs:List (List Int)} {t:List Int},PyFlat.rows k l=some (xs,t)→xs.length=k:=by
 intro k
 induction k with
 | zero=>intro l xs t h; rw [(u0 h).1]; rfl
 | succ k ih=>intro l xs t h; obtain⟨_,_,_,_,_,h,e⟩:=u1 h; rw [e,List.length_cons,ih h]
theorem z5:∀{cs:List (List (List Int))} {f:Nat} {l:List Int},PyFlat.calls PyVagrag.shape f l=some cs→cs.map PyVagrag.whole=cs:=by
 intro cs
 induction cs with
 | nil=>intro f l h; rfl
 | cons c r ih=>
  intro f l h
  cases l with
  | nil=>cases vE h
  | cons p q=>
   obtain⟨f',a,b,xs,t,cs',hs,hl,hr,hc,e⟩:=tJ h
   injection e with e1 e2
   rw [e2,List.map_cons,e1,DP (FO hs (List.length_take_of_le hl) (yV hr)),←e2,ih (e2▸hc)]
theorem z6 (l:List Int):PyVagrag.calls l=PyFlat.calls PyVagrag.shape l.length l:=by
 unfold PyVagrag.calls
 cases h:PyFlat.calls PyVagrag.shape l.length l with
 | none=>rfl
 | some cs=>exact congrArg some (z5 h)
end BM
namespace B
open PySem PySem.Spec PyProof.Rows L2
structure Dv (X:Cx):Prop where
 seer:X.base.NoSeer
 tree:X.prog.given.tree=none
 dp:X.A.depth+Builtin.pylongFrames < recursionLimit
 fr:∃env l,X.stack=env::l∧env.scope.isGenerator=false∧env.scope.isCoroutine=false∧env.builtins=builtinsNs∧env.globals=mainGlobals
section
variable {X:Cx}
theorem bv:OpR X (binaryOp .Mult) (rI IntMulOk fun i j=>.int (i*j)):=opI fun _ _ _ _ _ _ _ hc q=>mul_int q hc
theorem r9 (d:Dv X):OpR X (binaryOp .FloorDiv) (rI (fun _ j=>j≠0) fun i j=>.int (i.fdiv j)):=by
 intro pins s σ H x y v u Q I rx ry h
 obtain⟨i,j,rfl,rfl,hc,q⟩:=h
 obtain⟨t,rfl⟩:=rx
 obtain⟨t',rfl⟩:=ry
 obtain⟨env,l,f1,f2,f3,f4,f5⟩:=d.fr
 exact floordiv_int hc ⟨.int (i.fdiv j),H,I.tok _,⟨_,rfl⟩,q⟩ (.inr (PylongRoom.of I.nolimit d.dp (SeerAt.of (d.seer.keeps I.bk) d.tree (I.ok.frames.trans (congrArg some f1)) f2 f3 f4 f5)))
theorem dP (d:Dv X):OpR X (binaryOp .FloorDiv) (rI (fun _ j=>0 < j) fun i j=>.int (i / j)):=by
 intro pins s σ H x y v u Q I rx ry h
 obtain⟨i,j,rfl,rfl,hc,q⟩:=h
 have hc:(0:Int) < j:=hc
 refine r9 d pins s σ H _ _ v u Q I rx ry ⟨i,j,rfl,rfl,by show j≠0; omega,?_⟩
 show Q (.int (i.fdiv j)) H
 rw [Int.fdiv_eq_ediv_of_nonneg i (by omega)]
 exact q
theorem vp:MtR X "int.bit_length" (fun x xs H Q=>∃i,x=.int i∧xs=[]∧Q (.int (Builtin.Int.intBits i:Nat)) H):=by
 intro pins s σ H x xs v us Q I rx rv h
 obtain⟨i,rfl,rfl,q⟩:=h
 obtain⟨t,rfl⟩:=rx
 have hus:=rv.zero
 subst hus
 exact call_int_bit_length ⟨.int (Builtin.Int.intBits i:Nat),H,I.tok _,⟨_,rfl⟩,q⟩
end
theorem xj (l:Addr) (items:Array Value) (n:Nat) (b:Addr) (items2:Array Value) (n2:Nat) (dd:Option Addr) (ss:Array (Option Value)) (hs0:¬(!items.isEmpty && Builtin.List.listTooLong (items.size+items2.size))=true) (hs1:items.size≤sizeLine) (hs2:items.size+items2.size≤sizeLine+1):
  Meets (Builtin.«list.extend» ⟨[.ref l,.ref b],[]⟩) (fun _ R s=>s.heap.get? l=some {cls:=.type "list",dict:=none,data:=.seq items n,slots:=#[]}∧s.heap.get? b=some {cls:=.type "tuple",dict:=dd,data:=.seq items2 n2,slots:=ss}∧R (.ok (.ret Value.none)) {s with heap:=s.heap.update l (Obj.mapSeq fun x=>x++items2),toks:=s.toks}):=
 .of_wp fun prog w A R s h=>by
  obtain⟨hp,g,d,tk,os⟩:=s; obtain⟨hl,hb,h⟩:=h; have f1:=AutoSeq1.idx_int; have f2:=AutoSeq1.sub_tuple_tuple; have f3:=AutoSeq1.sub_list_list; have f4:=AutoSeq1.sub_tuple_list; have f5:=AutoSeq1.sub_list_tuple
  have hz':(items++items2).size≤sizeLine+1:=by rw [Array.size_append]; exact hs2
  wp_walk using (wpAny_updateSeq hl rfl (hz:=hs1) (_hz':=hz')),AutoSeq1.wpAny_loadPart' hl,AutoSeq1.wpAny_loadPart' hb; exact⟨_,rfl,h⟩
section
variable {X:Cx}
noncomputable def F0 (K:PySem.W.Frag):V→List V→Hp→VK→Prop:=fun x vs H Q=>∃l b xs zs,x=.ref l∧vs=[.ref b]∧H l=some (.lst xs)∧SqT K H b zs∧xs.length+zs.length≤sizeLine∧Q .non (upd H l (.lst (xs++zs)))
theorem sA:MtM X "list.extend" (F0 X.K):=by
 intro pins s σ H x vs v us Q I rx rv h
 obtain⟨l,b,xs,zs,rfl,rfl,hH,hB,hz,q⟩:=h
 cases rx
 obtain⟨u,rfl,ru⟩:=rv.one
 cases ru
 obtain⟨z,its,n,r,hl,e⟩:=I.lstM hH
 obtain⟨its2,r2,⟨o2,e2,c2,n2,d2⟩,hl2⟩:=I.tuple hB
 have hlen2:=r2.length
 have hsz:its.toArray.size+its2.toArray.size≤sizeLine:=by rw [List.size_toArray,List.size_toArray]; omega
 have hlong:¬(!its.toArray.isEmpty && Builtin.List.listTooLong (its.toArray.size+its2.toArray.size))=true:=by
  rw [so hsz,Bool.and_false]
  exact Bool.false_ne_true
 obtain⟨c,dd,dat,ss⟩:=o2
 cases c2
 cases d2
 refine call_meets F.slot_list_extend ⟨_,e,rfl⟩ F.entry_list_extend (F.args_list_extend_2 _ _)
  (xj l its.toArray n b its2.toArray n2 dd ss hlong (by rw [List.size_toArray]; omega) (by omega)) ⟨e,e2,?_⟩
 refine⟨.non,_,I.lset (its':=its++its2) hH e (by simp) (r.append r2) ?_,rfl,q⟩
 rw [List.length_append]
 omega
end
section
variable {prog:Program} {w:World} {A:Around} {E:Value→Shared→Prop} {s:Shared} {l:Addr} {its:List Value} {ns:List Int} {Q:Value→Shared→Prop}
theorem Gk (hh:A.handled=none) (hl:s.heap.IsTuple l its.toArray) (hi:IntsAre its ns) (hne:0 < ns.length)
  (h:∀h' tk M t',(∀b o,s.heap.get? b=some o→h'.get? b=some o)→M∈ns→(∀a,a∈ns→a≤M)→Q (.int M t') {s with heap:=h',toks:=tk}):wpAny (model prog w) A (call (.builtin "max") [.ref l]) Q E s:=by
 obtain⟨xs,e⟩:=hi.allInts.items
 have hn:numsOf (intItems xs).toList=ns:=by rw [←e]; exact hi.numsOf
 rw [nums_intItems] at hn
 subst hn
 rw [e] at hl
 have hsz:0 < xs.size:=by simpa using hne
 have hlt:l < s.heap.objs.size:=by obtain⟨o,ho,_⟩:=hl; exact Heap.lt_size ho
 refine call_max_walk (wpAny_pyIter_tuple hl ?_)
 refine⟨_,[_,l],[_],_,_,_,_,rfl,Walks.tuple (A:=A.in1) hh _ l (Nat.ne_of_lt hlt) (intItems xs),
  ⟨⟨_,Heap.get?_push_size _ rfl,rfl,rfl⟩,hl.push _⟩,fun c hc=>?_,by simpa [intItems] using hsz,CmpOf.ints_gt (numAt xs) (fun _ _=>intItems_at),fun v h' tk hP hk=>?_⟩
 ·show c < (s.heap.push _).objs.size
  rw [Heap.size_push]
  simp at hc
  rcases hc with e | e
  ·rw [e]; exact Nat.lt_succ_self _
  ·rw [e]; exact Nat.lt_succ_of_lt hlt
 ·have hv:(intItems xs)[argBest (fun i j=>decide (numAt xs i > numAt xs j)) (xs.size - 1)]?= some v:=by simpa [intItems] using hP
  obtain⟨t,rfl⟩:=intItems_at hv
  obtain⟨h1,h2⟩:=argBest_gt (numAt xs) (xs.size - 1)
  refine h h' tk _ t (fun b o e=>hk b o (by intro z; rw [List.mem_singleton.mp z] at e; exact absurd (Heap.lt_size e) (Nat.lt_irrefl _)) (Heap.get?_push_of_some _ e)) ?_ fun a ha=>?_
  ·rw [numAt_eq]; exact PySem.getD_mem (by rw [List.length_map,Array.length_toList]; omega)
  ·obtain⟨j,hj,rfl⟩:=mem_getD ha
   rw [List.length_map,Array.length_toList] at hj
   rw [←numAt_eq]; exact h2 j (by omega)
theorem Gj (hh:A.handled=none) (hl:s.heap.IsTuple l its.toArray) (hi:IntsAre its ns) (hne:0 < ns.length)
  (h:∀h' tk M t',(∀b o,s.heap.get? b=some o→h'.get? b=some o)→M∈ns→(∀a,a∈ns→M≤a)→Q (.int M t') {s with heap:=h',toks:=tk}):wpAny (model prog w) A (call (.builtin "min") [.ref l]) Q E s:=by
 obtain⟨xs,e⟩:=hi.allInts.items
 have hn:numsOf (intItems xs).toList=ns:=by rw [←e]; exact hi.numsOf
 rw [nums_intItems] at hn
 subst hn
 rw [e] at hl
 have hsz:0 < xs.size:=by simpa using hne
 have hlt:l < s.heap.objs.size:=by obtain⟨o,ho,_⟩:=hl; exact Heap.lt_size ho
 refine call_min_walk (wpAny_pyIter_tuple hl ?_)
 refine⟨_,[_,l],[_],_,_,_,_,rfl,Walks.tuple (A:=A.in1) hh _ l (Nat.ne_of_lt hlt) (intItems xs),
  ⟨⟨_,Heap.get?_push_size _ rfl,rfl,rfl⟩,hl.push _⟩,fun c hc=>?_,by simpa [intItems] using hsz,CmpOf.ints_lt (numAt xs) (fun _ _=>intItems_at),fun v h' tk hP hk=>?_⟩
 ·show c < (s.heap.push _).objs.size
  rw [Heap.size_push]
  simp at hc
  rcases hc with e | e
  ·rw [e]; exact Nat.lt_succ_self _
  ·rw [e]; exact Nat.lt_succ_of_lt hlt
 ·have hv:(intItems xs)[argBest (fun i j=>decide (numAt xs i < numAt xs j)) (xs.size - 1)]?= some v:=by simpa [intItems] using hP
  obtain⟨t,rfl⟩:=intItems_at hv
  obtain⟨h1,h2⟩:=argBest_lt (numAt xs) (xs.size - 1)
  refine h h' tk _ t (fun b o e=>hk b o (by intro z; rw [List.mem_singleton.mp z] at e; exact absurd (Heap.lt_size e) (Nat.lt_irrefl _)) (Heap.get?_push_of_some _ e)) ?_ fun a ha=>?_
  ·rw [numAt_eq]; exact PySem.getD_mem (by rw [List.length_map,Array.length_toList]; omega)
  ·obtain⟨j,hj,rfl⟩:=mem_getD ha
   rw [List.length_map,Array.length_toList] at hj
   rw [←numAt_eq]; exact h2 j (by omega)
end
section
variable {X:Cx}
noncomputable def Lo (K:PySem.W.Frag):List V→Hp→VK→Prop:=fun vs H Q=>∃(a:Addr) (ns:List Int),vs=[V.ref a]∧SqT K H a (ns.map V.int)∧0 < ns.length∧∀m,m∈ns→(∀y,y∈ns→y≤m)→Q (.int m) H
noncomputable def Jn (K:PySem.W.Frag):List V→Hp→VK→Prop:=fun vs H Q=>∃(a:Addr) (ns:List Int),vs=[V.ref a]∧SqT K H a (ns.map V.int)∧0 < ns.length∧∀m,m∈ns→(∀y,y∈ns→m≤y)→Q (.int m) H
theorem IW (hc:X.calm=true):gn X (.builtin "max") (Lo X.K):=by
 intro pins s σ H vs us Q I r h
 obtain⟨a,ns,rfl,hs,hne,q⟩:=h
 obtain⟨its,rv,hl,_⟩:=I.tuple hs
 rw [Vals.ref1 r]
 exact Gk (I.ok.hd hc) hl rv.ints hne fun h' tk m t' hk h1 h2=>⟨.int _,H,I.kept hk,⟨_,rfl⟩,q m h1 h2⟩
theorem DI (hc:X.calm=true):gn X (.builtin "min") (Jn X.K):=by
 intro pins s σ H vs us Q I r h
 obtain⟨a,ns,rfl,hs,hne,q⟩:=h
 obtain⟨its,rv,hl,_⟩:=I.tuple hs
 rw [Vals.ref1 r]
 exact Gj (I.ok.hd hc) hl rv.ints hne fun h' tk m t' hk h1 h2=>⟨.int _,H,I.kept hk,⟨_,rfl⟩,q m h1 h2⟩
end
section
variable {X:Cx} {K:PySem.W.Frag}
theorem ixT (h:X.K=K):IxR X (Lp K):=h▸aG
theorem ixL (h:X.K=K):IxR X (Lq K):=h▸aQ
theorem iX (h:X.K=K):gn X (.builtin "len") (fun xs H Q=>∃p ys,xs=[.ref p]∧(SqL K H p ys∨SqT K H p ys)∧Q (.int ys.length) H):=h▸xz
theorem C4 {es:List Expr} {k n:Nat} {t:TGs} {pos:Pos} (hK:X.K=K) (hc:X.calm=true) (h:PGs X es t) (hn:(assignEach es X.env).length=n:=by rfl) (hs:(assignEach es X.env).findIdx? (·.1)=none:=by rfl):PG X (.Tuple es k pos) (LH K n t):=hK▸rX hc h hn hs
theorem Dv.blk (d:Dv X) {s:Shared} {H:Hp} {sc:Scope} {env:Env} {fp:List Addr}:Dv (X.blk s H sc env fp):=⟨d.seer,d.tree,d.dp,d.fr⟩
end
end B
namespace B
open PySem PySem.Spec PyProof.Rows L2
noncomputable def hide (D:Addr→Bool) (H:Hp):Hp:=fun b=>if D b=true then none else H b
noncomputable def j3 (D:Addr→Bool) (H H':Hp):Hp:=fun b=>if D b=true then H b else H' b
noncomputable def OnlyL (D:Addr→Bool) (H:Hp):Prop:=∀b,D b=true→∃xs,H b=some (.lst xs)
noncomputable abbrev no:Addr→Bool:=fun _=>false
noncomputable abbrev at1 (l:Addr):Addr→Bool:=fun b=>decide (b=l)
section
variable {D:Addr→Bool} {H H' H1 H2:Hp} {b l:Addr} {o:HO}
theorem cz (e:hide D H b=some o):D b=false∧H b=some o:=by
 unfold hide at e
 cases q:D b with
 | true=>rw [q,if_pos rfl] at e; cases e
 | false=>rw [q,if_neg Bool.false_ne_true] at e; exact⟨rfl,e⟩
theorem bw (h:D b=false):hide D H b=H b:=by
 unfold hide
 rw [h,if_neg Bool.false_ne_true]
theorem jr (h:D b=true):hide D H b=none:=by
 unfold hide
 rw [h,if_pos rfl]
theorem iY (e:H b=none):hide D H b=none:=by
 unfold hide
 split
 ·rfl
 ·exact e
theorem Dl:hide no H=H:=by
 funext b
 exact bw rfl
theorem hide_same:Same (hide D H) H:=fun b o e=>(cz e).2
theorem _root_.L2.Same.hide (s:Same H H'):Same (hide D H) (hide D H'):=fun b o e=>by
 obtain⟨h1,h2⟩:=cz e
 rw [bw h1]
 exact s b o h2
theorem dR:hide (at1 l) (upd H l o)=hide (at1 l) H:=by
 funext b
 by_cases h:b=l
 ·rw [jr (decide_eq_true h),jr (decide_eq_true h)]
 ·rw [bw (decide_eq_false h),bw (decide_eq_false h),aq h]
theorem _root_.L2.Same.hide1 (s:Same H H') (n:H l=none):Same H (hide (at1 l) H'):=fun b o e=>by
 rw [bw (decide_eq_false (az e n))]
 exact s b o e
theorem _root_.L2.Same.new (n:H l=none):Same H (upd H l o):=fun b u e=>by
 rw [aq (az e n)]
 exact e
theorem _root_.L2.Same.upd1 (s:Same H H') (n:H l=none):Same H (upd H' l o):=fun b u e=>by
 rw [aq (az e n)]
 exact s b u e
theorem OnlyL.one {xs:List V} (e:H l=some (.lst xs)):OnlyL (at1 l) H:=fun b h=>by
 have z:b=l:=of_decide_eq_true h
 rw [z]
 exact⟨xs,e⟩
theorem OnlyL.none:OnlyL no H:=fun b h=>absurd h Bool.false_ne_true
theorem OnlyL.two {l2:Addr} {xs ys:List V} (e:H l=some (.lst xs)) (e2:H l2=some (.lst ys)):OnlyL (fun b=>decide (b=l) || decide (b=l2)) H:=fun b h=>by
 have h:(decide (b=l) || decide (b=l2))=true:=h
 rcases Bool.or_eq_true_iff.mp h with h | h
 ·rw [of_decide_eq_true h]; exact⟨xs,e⟩
 ·rw [of_decide_eq_true h]; exact⟨ys,e2⟩
end
theorem Gx {P:Program} {w:World} {D:Addr→Bool} {H:Hp} {h:Heap} (x:HOk P w H h) (d:OnlyL D H):HOk P w (hide D H) h:=fun b o e=>by
 obtain⟨h1,h2⟩:=cz e
 refine(x b o h2).stay (fun _ _ _ q=>q) (fun c q=>?_) fun c xs q=>?_
 ·cases z:D c with
  | false=>rw [bw z]; exact q
  | true=>obtain⟨ys,e⟩:=d c z; rw [e] at q; cases q
 ·cases z:D c with
  | false=>rw [bw z]; exact q
  | true=>obtain⟨ys,e⟩:=d c z; rw [e] at q; cases q
noncomputable def GF (sp:Sp):Sp:=fun vs H Q E=>∃D:Addr→Bool,OnlyL D H∧sp vs (hide D H) (fun v H'=>(∀b,D b=true→H' b=none)→Q v (j3 D H H')) E
theorem frame {P:Program} {w:World} {K:PySem.W.Frag} {mg:Str→Option Value} {base:Heap} {k:Nat} {f:Addr} {fd:FuncData} {ps:List Str} {sp:Sp} (F:FnOk P w K mg base CX0 k f fd ps sp):FnOk P w K mg base CX0 k f fd ps (GF sp) where
 len:=fun vs H Q E h=>by
  obtain⟨D,_,h⟩:=h
  exact F.len _ _ _ _ h
 run:=fun A outer s H args us vs Q E hr e0 hb hv h=>by
  obtain⟨D,d,h⟩:=h
  have hD:∀b,D b=true→∃xs o,H b=some (.lst xs)∧s.heap.get? b=some o∧b∉frs outer:=fun b z=>by
   obtain⟨xs,e⟩:=d b z
   obtain⟨_,_,_,_,q⟩:=e0.hok b _ e
   exact⟨xs,_,e,q,fun m=>by rw [e0.frf b m] at e; cases e⟩
  have e1:Env0 P w K mg base A outer s (hide D H):=⟨e0.frames,e0.mod,fun b o e=>⟨(e0.bs b o e).1,iY (e0.bs b o e).2⟩,e0.bsz,e0.funs,fun b hb=>iY (e0.frf b hb),Gx e0.hok d,e0.bare⟩
  refine codeAny_mono (F.run A outer s (hide D H) args us vs _ E hr e1 hb hv h) fun r s' q=>?_
  cases r with
  | error e=>exact q
  | ok fl=>
   cases fl with
   | next=>exact q
   | brk=>exact q
   | cont=>exact q
   | ret u=>
    obtain⟨v,H',os,bare,un,hok',rv,q⟩:=q
    have free:∀b,D b=true→H' b=none:=fun b z=>by
     obtain⟨xs,o,e,g,nf⟩:=hD b z
     exact un.free b o g (jr z) (by simp)
    have back_of:∀b,D b=false→j3 D H H' b=H' b:=fun b z=>by unfold j3; rw [z,if_neg Bool.false_ne_true]
    have back_on:∀b,D b=true→j3 D H H' b=H b:=fun b z=>by unfold j3; rw [z,if_pos rfl]
    refine⟨v,j3 D H H',os,bare,⟨fun b o e n hb hx=>un.keep b o e (iY n) hb hx,fun b o e n hb hx=>un.slot b o e (iY n) hb hx,fun b o e n hx=>?_,un.there,fun b xs e=>?_,fun b o u e=>?_,fun b p e=>?_⟩,fun b o e=>?_,rv,q free⟩
    ·cases z:D b with
     | true=>rw [back_on b z]; exact n
     | false=>rw [back_of b z]; exact un.free b o e (iY n) hx
    ·cases z:D b with
     | true=>rw [back_on b z]; exact e
     | false=>rw [back_of b z]; exact un.tups b xs (by rw [bw z]; exact e)
    ·cases z:D b with
     | true=>rw [back_on b z]; exact e
     | false=>rw [back_of b z]; exact un.frzs b o u (by rw [bw z]; exact e)
    ·cases z:D b with
     | true=>rw [back_on b z]; exact⟨#[],by rw [e]; simp⟩
     | false=>rw [back_of b z]; exact un.tbls b p (by rw [bw z]; exact e)
    ·cases z:D b with
     | true=>
      rw [back_on b z] at e
      obtain⟨xs,o',e',g,nf⟩:=hD b z
      rw [e'] at e
      cases e
      obtain⟨hz,its,n,r,g2⟩:=e0.hok b _ e'
      exact⟨hz,its,n,r,un.keep b _ g2 (jr z) nf (by simp)⟩
     | false=>
      rw [back_of b z] at e
      refine(hok' b o e).stay (fun _ _ _ q=>q) (fun c q=>?_) fun c xs q=>?_
      ·cases zc:D c with
       | true=>rw [free c zc] at q; cases q
       | false=>rw [back_of c zc]; exact q
      ·cases zc:D c with
       | true=>rw [free c zc] at q; cases q
       | false=>rw [back_of c zc]; exact q
noncomputable def bP {α:Type} (ar:α→List V→Hp→Prop) (rs:α→V→Hp→Prop):Sp:=fun vs H Q _=>∃(x:α) (D:Addr→Bool),OnlyL D H∧ar x vs (hide D H)∧∀H' r,Same H H'→rs x r (hide D H')→Q r H'
noncomputable def Lr {α:Type} (ar:α→List V→Hp→Prop) (rs:α→V→Hp→Prop):Sp:=fun vs H Q _=>∃x:α,ar x vs H∧∀H' r,Same H H'→rs x r H'→Q r H'
theorem bb {α:Type} {ar:α→List V→Hp→Prop} {rs:α→V→Hp→Prop} {P:Program} {w:World} {K:PySem.W.Frag} {mg:Str→Option Value} {base:Heap} {k:Nat} {f:Addr} {fd:FuncData} {ps:List Str}
  (F:FnOk P w K mg base CX0 k f fd ps (Lr ar rs)):FnOk P w K mg base CX0 k f fd ps (bP ar rs):=(frame F).imp fun vs H Q E h=>by
 obtain⟨x,D,d,a,q⟩:=h
 refine⟨D,d,x,a,fun H' r s rr free=>q _ r (fun b o e=>?_) ?_⟩
 ·unfold j3
  cases z:D b with
  | true=>rw [if_pos rfl]; exact e
  | false=>rw [if_neg Bool.false_ne_true]; exact s b o (by rw [bw z]; exact e)
 ·have e:hide D (j3 D H H')=H':=by
   funext b
   unfold hide j3
   cases z:D b with
   | true=>rw [if_pos rfl,free b z]
   | false=>rw [if_neg Bool.false_ne_true,if_neg Bool.false_ne_true]
  rw [e]
  exact rr
section
variable {α:Type} {ar:α→List V→Hp→Prop} {rs:α→V→Hp→Prop} {vs:List V} {H:Hp} {Q:VK} {E:XK}
theorem bZ (x:α) (a:ar x vs H) (q:∀H' r,Same H H'→rs x r H'→Q r H'):bP ar rs vs H Q E:=
 ⟨x,no,OnlyL.none,by rw [Dl]; exact a,fun H' r s h=>q H' r s (by rw [Dl] at h; exact h)⟩
theorem DT (x:α) {l:Addr} {xs:List V} (e:H l=some (.lst xs)) (a:ar x vs (hide (at1 l) H)) (q:∀H' r,Same H H'→rs x r (hide (at1 l) H')→Q r H'):bP ar rs vs H Q E:=
 ⟨x,at1 l,OnlyL.one e,a,q⟩
end
structure Fb (P:Program) (w:World) (K:PySem.W.Frag) (mg:Str→Option Value) (base:Heap) (k:Nat) (x:Str) (ps:List Str) (sp:Sp):Prop where
 ex:∃(f:Addr) (fd:FuncData),FnOk P w K mg base CX0 k f fd ps sp∧mg x=some (.ref f)∧PySem.W.keepIn K (.ref f)=true∧Binds K fd ps []
section
variable {X:Cx} {k:Nat} {ps:List Str} {sp:Sp} {x:Str} {p pos:Pos} {e:Expr} {es:List Expr} {t:TA}
theorem aP (F:Fb X.prog X.w X.K X.mg X.base k x ps sp) (hr:Room k X.A) (hg:Gl X x) (ha:PA X (e::es) t) (hdb:(x == ("__debug__": Str))=false:=by decide)
  (he:starEach (e::es) X.env=(false,eval e X.env)::starEach es X.env:=by rfl) (hpl:(backTo pos (starEach es X.env)).any (·.1)=false:=by rfl):
  PE X (.Call (.Name x p) (e::es) [] pos) (CQ sp [] E0 t):=by
 obtain⟨f,fd,h1,h2,h3,h4⟩:=F.ex
 exact HW h1 hr hg h2 h3 h4 .nil vh ha hdb he hpl
theorem Ka (F:Fb X.prog X.w X.K X.mg X.base k x ps sp) (hr:Room k X.A) (hg:Gl X x) (hdb:(x == ("__debug__": Str))=false:=by decide):PE X (.Call (.Name x p) [] [] pos) (CQ sp [] E0 AM):=by
 obtain⟨f,fd,h1,h2,h3,h4⟩:=F.ex
 exact F6 h1 hr hg h2 h3 h4 .nil vh hdb
end
end B
namespace B
open PySem PySem.Spec PyProof.Rows L2
noncomputable abbrev Rep (α:Type):=Hp→V→α→Prop
noncomputable def lY {α:Type} (R:Rep α):Prop:=∀(H H':Hp) (v:V) (x:α),Same H H'→R H v x→R H' v x
theorem _root_.L2.Same.tup {K:PySem.W.Frag} {H H':Hp} {a:Addr} {xs:List V} (e:Same H H') (h:SqT K H a xs):SqT K H' a xs:=by
 rcases h with(h | ⟨o,h⟩) | h
 ·exact .inl (.inl (e _ _ h))
 ·exact .inl (.inr ⟨o,e _ _ h⟩)
 ·exact .inr h
noncomputable def HP:Rep Int:=fun _ v n=>v=.int n
noncomputable def J1:Rep Nat:=fun _ v n=>v=.int (n:Int)
noncomputable def b0 (K:PySem.W.Frag) {α:Type} (R:Rep α):Rep (List α):=fun H v xs=>∃a vs,v=.ref a∧SqL K H a vs∧Paired (R H) vs xs
noncomputable def u7 (K:PySem.W.Frag) {α β:Type} (R:Rep α) (S:Rep β):Rep (α×β):=fun H v p=>∃a x y,v=.ref a∧SqT K H a [x,y]∧R H x p.1∧S H y p.2
noncomputable def rFr (K:PySem.W.Frag):Rep Rat:=fun H v q=>∃a,v=.ref a∧SqT K H a [.int q.num,.int (q.den:Int)]
noncomputable def rTI (K:PySem.W.Frag):Rep (List Int):=fun H v ns=>∃a,v=.ref a∧SqT K H a (ns.map V.int)
noncomputable def rLI (K:PySem.W.Frag):Rep (List Int):=fun H v ns=>∃a,v=.ref a∧SqL K H a (ns.map V.int)
noncomputable def cf {α:Type} (R:Rep α):Rep (Option α):=fun H v x=>match x with
 | none=>v=.non
 | some y=>v≠.non∧R H v y
section
variable {K:PySem.W.Frag} {α β:Type} {R:Rep α} {S:Rep β}
theorem Lz:lY HP:=fun _ _ _ _ _ h=>h
theorem wU:lY J1:=fun _ _ _ _ _ h=>h
theorem aT (m:lY R) {H H':Hp} (s:Same H H'):∀{vs:List V} {xs:List α},Paired (R H) vs xs→Paired (R H') vs xs
 | _,_,.nil=>.nil
 | _,_,.cons r t=>.cons (m _ _ _ _ s r) (aT m s t)
theorem gU (m:lY R):lY (b0 K R):=fun _ _ _ _ s ⟨a,vs,e,h,p⟩=>⟨a,vs,e,s.seq h,aT m s p⟩
theorem kv (m:lY R) (n:lY S):lY (u7 K R S):=fun _ _ _ _ s ⟨a,x,y,e,h,p,q⟩=>⟨a,x,y,e,s.tup h,m _ _ _ _ s p,n _ _ _ _ s q⟩
theorem mFr:lY (rFr K):=fun _ _ _ _ s ⟨a,e,h⟩=>⟨a,e,s.tup h⟩
theorem mTI:lY (rTI K):=fun _ _ _ _ s ⟨a,e,h⟩=>⟨a,e,s.tup h⟩
theorem mLI:lY (rLI K):=fun _ _ _ _ s ⟨a,e,h⟩=>⟨a,e,s.seq h⟩
theorem bt {H:Hp}:∀{vs:List V} {xs:List α} {i:Nat} {x:α},Paired (R H) vs xs→xs[i]?= some x→∃v,vs[i]?= some v∧R H v x
 | _,_,i,_,.nil,e=>by simp at e
 | _,_,0,_,.cons r _,e=>by simp at e; subst e; exact⟨_,rfl,r⟩
 | _,_,i+1,x,.cons _ t,e=>by
  obtain⟨v,h1,h2⟩:=bt (i:=i) (x:=x) t (by simpa using e)
  exact⟨v,by simpa using h1,h2⟩
theorem bY {H:Hp}:∀{vs:List V} {xs:List α} {i:Nat} {v:V},Paired (R H) vs xs→vs[i]?= some v→∃x,xs[i]?= some x∧R H v x
 | _,_,i,_,.nil,e=>by simp at e
 | _,_,0,_,.cons r _,e=>by simp at e; subst e; exact⟨_,rfl,r⟩
 | _,_,i+1,v,.cons _ t,e=>by
  obtain⟨x,h1,h2⟩:=bY (i:=i) (v:=v) t (by simpa using e)
  exact⟨x,by simpa using h1,h2⟩
theorem d5 {H:Hp}:∀{vs us:List V} {xs ys:List α},Paired (R H) vs xs→Paired (R H) us ys→Paired (R H) (vs++us) (xs++ys)
 | _,_,_,_,.nil,s=>s
 | _,_,_,_,.cons r t,s=>.cons r (d5 t s)
theorem bz {H:Hp} {vs:List V} {xs:List α} {v:V} {x:α} (h:Paired (R H) vs xs) (r:R H v x):Paired (R H) (vs++[v]) (xs++[x]):=d5 h (.cons r .nil)
theorem aJ {H:Hp} {vs:List V} {xs:List α} (h:Paired (R H) vs xs):vs.length=xs.length:=Paired.length h
end
noncomputable def rLstT {α:Type} (R:Rep α):Rep (List α):=fun H v xs=>∃a vs,v=.ref a∧H a=some (.lst vs)∧Paired (R H) vs xs
theorem Go {α:Type} {R:Rep α} (m:lY R):lY (rLstT R):=fun _ _ _ _ s ⟨a,vs,e,h,p⟩=>⟨a,vs,e,s _ _ h,aT m s p⟩
theorem rLstT.lst {K:PySem.W.Frag} {α:Type} {R:Rep α} {H:Hp} {v:V} {xs:List α} (h:rLstT R H v xs):b0 K R H v xs:=by
 obtain⟨a,vs,e,h,p⟩:=h
 exact⟨a,vs,e,SqL.of h,p⟩
noncomputable def LB:HO→Bool
 | .ins _ _ _=>true
 | _=>false
noncomputable def SameN (H H':Hp):Prop:=∀b o,H b=some o→LB o=false→H' b=some o
theorem _root_.L2.Same.n {H H':Hp} (s:Same H H'):SameN H H':=fun b o e _=>s b o e
theorem SameN.trans {H H1 H2:Hp} (s:SameN H H1) (t:SameN H1 H2):SameN H H2:=fun b o e i=>t b o (s b o e i) i
theorem SameN.seq {K:PySem.W.Frag} {H H':Hp} {a:Addr} {xs:List V} (e:SameN H H') (h:SqL K H a xs):SqL K H' a xs:=by
 rcases h with(h | ⟨o,h⟩) | h
 ·exact .inl (.inl (e _ _ h rfl))
 ·exact .inl (.inr ⟨o,e _ _ h rfl⟩)
 ·exact .inr h
theorem SameN.tup {K:PySem.W.Frag} {H H':Hp} {a:Addr} {xs:List V} (e:SameN H H') (h:SqT K H a xs):SqT K H' a xs:=by
 rcases h with(h | ⟨o,h⟩) | h
 ·exact .inl (.inl (e _ _ h rfl))
 ·exact .inl (.inr ⟨o,e _ _ h rfl⟩)
 ·exact .inr h
noncomputable def k9 {α:Type} (R:Rep α):Prop:=∀(H H':Hp) (v:V) (x:α),SameN H H'→R H v x→R H' v x
section
variable {K:PySem.W.Frag} {α β:Type} {R:Rep α} {S:Rep β}
theorem Lw:k9 HP:=fun _ _ _ _ _ h=>h
theorem nw (m:k9 R) {H H':Hp} (s:SameN H H'):∀{vs:List V} {xs:List α},Paired (R H) vs xs→Paired (R H') vs xs
 | _,_,.nil=>.nil
 | _,_,.cons r t=>.cons (m _ _ _ _ s r) (nw m s t)
theorem mG (m:k9 R):k9 (b0 K R):=fun _ _ _ _ s ⟨a,vs,e,h,p⟩=>⟨a,vs,e,s.seq h,nw m s p⟩
theorem Jr (m:k9 R) (n:k9 S):k9 (u7 K R S):=fun _ _ _ _ s ⟨a,x,y,e,h,p,q⟩=>⟨a,x,y,e,s.tup h,m _ _ _ _ s p,n _ _ _ _ s q⟩
theorem nFr:k9 (rFr K):=fun _ _ _ _ s ⟨a,e,h⟩=>⟨a,e,s.tup h⟩
theorem nTI:k9 (rTI K):=fun _ _ _ _ s ⟨a,e,h⟩=>⟨a,e,s.tup h⟩
theorem nLI:k9 (rLI K):=fun _ _ _ _ s ⟨a,e,h⟩=>⟨a,e,s.seq h⟩
end
theorem ML {k:Bool} {A B:Prop} (h1:k=true→A) (h2:k=false→B):if k=true then A else B:=by
 cases k with
 | true=>exact h1 rfl
 | false=>exact h2 rfl
theorem dH {c:Prop} [Decidable c] {A B:Prop} (h1:c→A) (h2:¬c→B):if decide c=true then A else B:=by
 by_cases h:c
 ·rw [decide_eq_true h]; exact h1 h
 ·rw [decide_eq_false h]; exact h2 h
theorem dQ {c:Prop} [Decidable c] {A B:Prop} (h1:¬c→A) (h2:c→B):if (!decide c)=true then A else B:=by
 by_cases h:c
 ·rw [decide_eq_true h]; exact h2 h
 ·rw [decide_eq_false h]; exact h1 h
theorem nJ {i:Int} {A B:Prop} (h1:i≠0→A) (h2:i=0→B):if (i != 0)=true then A else B:=by
 by_cases h:i=0
 ·rw [if_neg (by simp [h])]; exact h2 h
 ·rw [if_pos (by simpa using h)]; exact h1 h
noncomputable def top (i:Nat):Stmt:=PySem.Challenge.pw_backchains_s01_answers.main.body.getD i (.Pass ⟨0,0,0,0⟩)
section
variable {X:Cx} {x:Str} {pos:Pos}
theorem aO {i:Int} (hg:Gl X x) (h:∃t,X.mg x=some (.int i t)) (hd:(x == ("__debug__": Str))=false:=by decide):PE X (.Name x pos) (tC (.int i)):=by
 obtain⟨t,h⟩:=h
 exact C6 (v:=.int i) hg h ⟨t,rfl⟩ hd
theorem kr {a:Addr} (hg:Gl X x) (h:X.mg x=some (.ref a)) (hd:(x == ("__debug__": Str))=false:=by decide):PE X (.Name x pos) (tC (.ref a)):=C6 (v:=.ref a) hg h rfl hd
end
theorem pY {P:Program} {w:World} {K:PySem.W.Frag} {mg:Str→Option Value} {base:Heap} {N ps:List Str} {qual:Str} {scope:Scope} {f:Addr} {cd:Value} {A:Around} {outer:List Env} {s:Shared} {H:Hp} {E:XK} {k:Nat}
  (hs:base.NoSeer) (ht:P.given.tree=none) (S:aD N ps scope) (hr:Room k (A.deeper (envOfC qual scope s.heap.objs.size f cd))) (hk:33≤k):Dv (zZ CX0 P w K mg base N qual scope f cd A outer s H E).nox where
 seer:=hs
 tree:=ht
 dp:=by
  have h:=hr.dp
  show _+100 < recursionLimit
  have e:(zZ CX0 P w K mg base N qual scope f cd A outer s H E).nox.A.depth=(A.deeper (envOfC qual scope s.heap.objs.size f cd)).depth:=rfl
  rw [e]
  omega
 fr:=⟨_,_,rfl,S.gen,S.co,rfl,rfl⟩
end B
namespace B
open PySem PySem.Spec PyProof.Rows L2
noncomputable def KT (K:PySem.W.Frag) (a:Addr) (xs:List V):Prop:=∃(o:Obj) (its:Array Value) (n:Nat),K.lookup a=some o∧o.cls=.type "tuple"∧o.data=.seq its n∧its.size≤sizeLine∧Vals xs its.toList
theorem KT.sq {K:PySem.W.Frag} {a:Addr} {xs:List V} (h:KT K a xs) (H:Hp):SqT K H a xs:=.inr h
structure Ad where
 bL:Addr
 jS:Addr
 b8:Addr
 cS:Addr
 dy:Addr
 kC:List Addr
 cls:Str→Addr
structure Tx (P:Program) (K:PySem.W.Frag) (mg:Str→Option Value) (base:Heap) (a:Ad):Prop where
 seer:base.NoSeer
 tree:P.given.tree=none
 p0:mg "abs"=none
 Af:mg "all"=none
 DL:mg "any"=none
 eA:mg "enumerate"=none
 du:mg "len"=none
 xC:mg "list"=none
 Ae:mg "max"=none
 tK:mg "min"=none
 cN:mg "range"=none
 DK:mg "sum"=none
 qT:mg "tuple"=none
 Ac:mg "zip"=none
 kM:∃t,mg "TAKE"=some (.int (0) t)
 oZ:∃t,mg "KEEP"=some (.int (1) t)
 mS:∃t,mg "STEP"=some (.int (2) t)
 sT:∃t,mg "TURN"=some (.int (3) t)
 fV:mg "ACT_LENGTHS"=some (.ref a.bL)
 fR:KT K a.bL [.int (2),.int (2),.int (1),.int (1)]
 lM:∃t,mg "NO_SLOT"=some (.int (1) t)
 dW:∃t,mg "SLOT_IS_EMPTY"=some (.int (2) t)
 de:∃t,mg "NOTHING_AT_HAND"=some (.int (3) t)
 eW:∃t,mg "LAST_AT_HAND"=some (.int (4) t)
 dX:∃t,mg "OTHER_IS_LEFT"=some (.int (5) t)
 dF:∃t,mg "STEPS_ARE_LEFT"=some (.int (6) t)
 sU:mg "ONE"=some (.ref a.jS)
 CN:KT K a.jS [.int (1),.int (1)]
 f6:mg "MINUS_ONE"=some (.ref a.b8)
 hZ:KT K a.b8 [.int (-1),.int (1)]
 lO:∃t,mg "INPUT"=some (.int (0) t)
 d6:∃t,mg "CONSTANT"=some (.int (1) t)
 zE:∃t,mg "SUM"=some (.int (2) t)
 eY:∃t,mg "DIFFERENCE"=some (.int (3) t)
 i5:∃t,mg "PRODUCT"=some (.int (4) t)
 g7:∃t,mg "OPPOSITE"=some (.int (6) t)
 lN:mg "LENGTHS"=some (.ref a.cS)
 ly:KT K a.cS [.int (2),.int (3),.int (3),.int (3),.int (3),.int (3),.int (2)]
 eX:∃t,mg "DIVISOR_IS_0"=some (.int (1) t)
 cx:∃t,mg "TOO_HEAVY_linecode"=some (.int (2) t)
 fU:∃t,mg "MOST_WEIGHT"=some (.int (200) t)
 b7:∃t,mg "MOST_STEPS"=some (.int (60) t)
 cM:∃t,mg "MOST_SLOTS"=some (.int (20) t)
 bf:∃t,mg "OUT_OF_RANGE"=some (.int (-1) t)
 dr:∃t,mg "BAD_FORM"=some (.int (-2) t)
 eU:∃t,mg "USES_UNKNOWN"=some (.int (-3) t)
 kN:∃t,mg "NO_RUN"=some (.int (-4) t)
 ip:∃t,mg "HAS_FAULT"=some (.int (-5) t)
 cJ:∃t,mg "TOO_HEAVY_holder"=some (.int (-6) t)
 g6:∃t,mg "TOO_MANY"=some (.int (-7) t)
 gz:∃t,mg "NOT_PLAYED"=some (.int (-8) t)
 gA:∃t,mg "MOST_PARTS"=some (.int (4) t)
 gB:∃t,mg "MOST_LINES"=some (.int (30) t)
 jz:∃t,mg "MOST_RUN"=some (.int (40) t)
 cK:∃t,mg "MOST_TOLD_WEIGHT"=some (.int (4000) t)
 dq:∃t,mg "MOST_FORWARD"=some (.int (1000000) t)
 io:∃t,mg "MOST_ACTS"=some (.int (2000) t)
 bS:∃t,mg "MOST_SCHEDULE_STEPS"=some (.int (50) t)
 bo:∃t,mg "MOST_SCHEDULE_SLOTS"=some (.int (10) t)
 qQ:∃t,mg "CHAIN"=some (.int (0) t)
 Dm:∃t,mg "RUN"=some (.int (1) t)
 qM:∃t,mg "STATE"=some (.int (2) t)
 jA:∃t,mg "BACKWARD"=some (.int (3) t)
 lP:∃t,mg "FORWARD"=some (.int (4) t)
 qO:∃t,mg "LEAST"=some (.int (5) t)
 qN:∃t,mg "SPLIT"=some (.int (6) t)
 xc:∃t,mg "MOST"=some (.int (7) t)
 xa:∃t,mg "ROOM"=some (.int (8) t)
 jy:∃t,mg "SCHEDULE"=some (.int (9) t)
 qP:∃t,mg "CHECK"=some (.int (10) t)
 xb:∃t,mg "PLAY"=some (.int (11) t)
 i4:mg "SHAPES"=some (.ref a.dy)
 iS:KT K a.dy (a.kC.map V.ref)
 nE:Paired (fun p (ns:List Int)=>KT K p (ns.map V.int)) a.kC [[1,2],[1,1],[1,0],[0,1],[0,1],[2,0],[2,0],[2,0],[2,0],[2,0],[2,1],[1,2],[1,1]]
 bj:Cls K (a.cls "Desk")
 n_Desk_steps:NoAttr K (a.cls "Desk") "steps"
 n_Desk_slots:NoAttr K (a.cls "Desk") "slots"
 n_Desk_hand:NoAttr K (a.cls "Desk") "hand"
 n_Desk_left:NoAttr K (a.cls "Desk") "left"
 n_Desk_stepped:NoAttr K (a.cls "Desk") "stepped"
 n_Desk_turned:NoAttr K (a.cls "Desk") "turned"
 bU:Cls K (a.cls "Chain")
 n_Chain_parts:NoAttr K (a.cls "Chain") "parts"
 n_Chain_lines:NoAttr K (a.cls "Chain") "lines"
 n_Chain_outs:NoAttr K (a.cls "Chain") "outs"
 ci:Cls K (a.cls "Run")
 n_Run_steps:NoAttr K (a.cls "Run") "steps"
 n_Run_states:NoAttr K (a.cls "Run") "states"
 n_Run_worked:NoAttr K (a.cls "Run") "worked"
 n_Run_fault:NoAttr K (a.cls "Run") "fault"
 n_Run_tables:NoAttr K (a.cls "Run") "tables"
 aH:Cls K (a.cls "Holder")
 n_Holder_chain:NoAttr K (a.cls "Holder") "chain"
 n_Holder_run:NoAttr K (a.cls "Holder") "run"
 n_Holder_columns:NoAttr K (a.cls "Holder") "columns"
theorem kZ:bootBuiltins "abs"=some (.builtin "abs"):=by decide +kernel
theorem nW:bootBuiltins "min"=some (.builtin "min"):=by decide +kernel
theorem z7:bootBuiltins "max"=some (.builtin "max"):=by decide +kernel
theorem G2:bootBuiltins "sum"=some (.builtin "sum"):=by decide +kernel
theorem z8:bootBuiltins "all"=some (.builtin "all"):=by decide +kernel
theorem G3:bootBuiltins "any"=some (.builtin "any"):=by decide +kernel
theorem Ck:bootBuiltins "tuple"=some (.type "tuple"):=by decide +kernel
end B
namespace B
open PySem PySem.Spec PyProof.Rows L2
noncomputable def Di (r:Addr) (i j c:Int):Heap→Prop:=fun h=>∃t u v,IsRange h r i j c t u v
section
variable {X:Cx}
noncomputable def Ln:List V→Hp→VK→Prop:=fun xs H Q=>∃(i j c:Int) (n:Nat),xs=[.int i,.int j,.int c]∧RgC i j c n∧∀r,H r=none→Q (.ref r) (upd H r (.ext (Di r i j c)))
theorem Fa:gn X (.type "range") Ln:=by
 intro pins s σ H xs us Q I r h
 obtain⟨i,j,k,n,rfl,⟨c0,c1,c2,c3⟩,q⟩:=h
 cases r with
 | cons r rr=>
  cases rr with
  | cons r' rr=>
   cases rr with
   | cons r'' rr=>
    cases rr
    obtain⟨t,rfl⟩:=r
    obtain⟨t',rfl⟩:=r'
    obtain⟨t'',rfl⟩:=r''
    refine call_range_3 c0 ?_ (.inl (PyProof.noPylong_small c1))
    have e:(s.heap.push {cls:=.type "range",data:=.fields #[.int i t,.int j t',.int k t'']}).get? s.heap.objs.size=some {cls:=.type "range",data:=.fields #[.int i t,.int j t',.int k t'']}:=Heap.get?_push_size _ rfl
    refine⟨.ref s.heap.objs.size,_,I.laid (t':=s.toks) (o:=.ext (Di s.heap.objs.size i j k)) (fun b ob q=>Heap.get?_push_of_some _ q) (Nat.le_refl _) ⟨⟨t,t',t'',e⟩,⟨_,e⟩,fun h1 h2 hh kk=>?_⟩,rfl,q _ (I.hok.fresh (Nat.le_refl _))⟩
    obtain⟨a,b,c,hh⟩:=hh
    exact⟨a,b,c,kk _ hh⟩
theorem AA {i c:Int}:∀{n:Nat} {acc:List Value},acc.length=n→(∀(j:Nat) (v:Value),acc[j]?= some v→∃t,v=.int (i+j*c) t)→Vals ((List.range n).map fun k=>V.int (i+(k:Nat)*c)) acc:=by
 intro n
 induction n with
 | zero=>
  intro acc hl _
  have:acc=[]:=List.eq_nil_of_length_eq_zero hl
  subst this
  exact .nil
 | succ n ih=>
  intro acc hl h
  have hne:acc≠[]:=fun z=>by rw [z] at hl; cases hl
  have e:=List.dropLast_concat_getLast hne
  rw [List.range_succ,List.map_append,←e]
  have hd:acc.dropLast.length=n:=by rw [List.length_dropLast,hl]; rfl
  refine Vals.append (ih hd fun j v hj=>h j v ?_) (.cons ?_ .nil)
  ·rw [←e,List.getElem?_append_left (List.getElem?_eq_some_iff.mp hj).1]
   exact hj
  ·have:=h n (acc.getLast hne) (by rw [List.getLast_eq_getElem,List.getElem?_eq_getElem (by omega)]; congr 2; omega)
   exact this
noncomputable def J2:List V→Hp→VK→Prop:=fun xs H Q=>∃(r:Addr) (i j c:Int) (n:Nat),xs=[.ref r]∧H r=some (.ext (Di r i j c))∧RgC i j c n∧n≤1000∧∀l,H l=none→Q (.ref l) (upd H l (.lst ((List.range n).map fun k=>.int (i+(k:Nat)*c))))
theorem Cj (hc:X.calm=true):gn X (.type "list") J2:=by
 intro pins s σ H xs us Q I r h
 obtain⟨ra,i,j,c,n,rfl,hr,⟨c0,c1,c2,c3⟩,hn,q⟩:=h
 rw [Vals.ref1 r]
 obtain⟨⟨t,u,v,hr'⟩,_⟩:=I.hok ra _ hr
 refine call_list_range (I.ok.hd hc) hr' c2 c3 (by omega) fun h' tk acc' c' kp e items=>?_
 have hl:acc'.toList.length=n:=by rw [Array.length_toList]; exact items.1
 have hv:Vals ((List.range n).map fun k=>V.int (i+(k:Nat)*c)) acc'.toList:=AA hl fun j v hj=>items.2 j v (by rw [←Array.getElem?_toList]; exact hj)
 refine⟨.ref s.heap.objs.size,_,I.laid (t':=tk) (o:=.lst ((List.range n).map fun k=>V.int (i+(k:Nat)*c))) kp (Nat.le_refl _) ⟨?_,acc'.toList,c',hv,?_⟩,rfl,q _ (I.hok.fresh (Nat.le_refl _))⟩
 ·rw [List.length_map,List.length_range,sizeLine_eq]
  omega
 ·rw [Array.toArray_toList]
  exact e
theorem Cl:bootBuiltins "list"=some (.type "list"):=by decide +kernel
end
end B
namespace B
open PySem PySem.Spec PyProof.Rows L2
section
variable {P:Program} {w:World} {K:PySem.W.Frag} {mg:Str→Option Value} {base:Heap} {ad:Ad}
noncomputable abbrev dZ:Stmt:=top 24
theorem sc_greatest_divisor:aD ["a","b","rest"] ["a","b"] (aw dZ):=⟨rfl,rfl,rfl,by decide +kernel,rfl,by decide +kernel,by decide +kernel⟩
noncomputable def CS:Sp:=fun vs H Q _=>∃a b:Int,vs=[.int a,.int b]∧0≤a∧0≤b∧Q (.int (Int.gcd a b:Nat)) H
theorem GD {a b:Int} (ha:0≤a) (hb:0 < b):Int.gcd b (a % b)=Int.gcd a b:=by
 rw [Int.gcd_comm a b]
 show Nat.gcd b.natAbs (a % b).natAbs=Nat.gcd b.natAbs a.natAbs
 have e:(a % b).natAbs=a.natAbs % b.natAbs:=by
  obtain⟨n,rfl⟩:=Int.eq_ofNat_of_zero_le ha
  obtain⟨m,rfl⟩:=Int.eq_ofNat_of_zero_le (by omega:0≤b)
  rfl
 rw [e,Nat.gcd_comm,←Nat.gcd_rec]
theorem Kd {f:Addr} {fd:FuncData} (F:Fun K "greatest_divisor" "greatest_divisor" dZ f fd):FnOk P w K mg base CX0 40 f fd ["a","b"] CS:=by
 refine F.ok sc_greatest_divisor (fun vs H Q E h=>?_) (fun cdv A outer s H vs Q E hr h=>?_)
 ·obtain⟨_,_,rfl,_⟩:=h; rfl
 ·obtain⟨a,b,rfl,ha,hb,k⟩:=h
  refine⟨_,(ag (iV PassesOwn.never (aW (pv 1) (fun _=>rfl))
    (ag (aF (i:=2) sc_greatest_divisor.nd rfl (Or.inl rfl) (aR Gb (pv 0) (pv 1)))
    (ag (aF (i:=0) sc_greatest_divisor.nd rfl (Or.inl rfl) (pv 1))
    (aj (aF (i:=1) sc_greatest_divisor.nd rfl (Or.inl rfl) (pv 2))))))
   (aj (ay (pv 0)))),?_⟩
  refine j7 (fun σ H'=>∃(a' b':Int) (r:Option V),σ=[some (.int a'),some (.int b'),r]∧H'=H∧0≤a'∧0≤b'∧Int.gcd a' b'=Int.gcd a b) (fun σ _=>match σ with | [_,some (.int b'),_]=>b'.toNat | _=>0)
   ⟨a,b,none,rfl,rfl,ha,hb,rfl⟩ ?_ (fun σ H Q Q' h ⟨v,e,k,t,q⟩=>⟨v,e,k,t,h _ _ q⟩)
  rintro σ H' ⟨a',b',r,rfl,rfl,ha',hb',e⟩
  refine⟨_,rfl,_,rfl,nJ (fun h0=>?_) fun h0=>?_⟩
  case refine_2=>
   refine⟨_,rfl,?_⟩
   have e2:(Int.gcd a b:Int)=a':=by rw [←e,h0,Int.gcd_zero_right]; omega
   rw [e2] at k
   exact k
  ·have hm:=Int.emod_nonneg a' h0
   have hl:=Int.emod_lt_of_pos a' (by omega:0 < b')
   refine⟨_,rfl,_,rfl,a',b',rfl,rfl,(by show 0 < b'; omega),?_⟩
   refine⟨_,rfl,?_⟩
   refine⟨_,rfl,?_⟩
   exact⟨⟨b',a' % b',_,rfl,rfl,hb',hm,by rw [←e]; exact GD ha' (by omega)⟩,by show(a' % b').toNat < b'.toNat; omega⟩
noncomputable abbrev rN:Stmt:=top 25
theorem sc_lowest:aD ["numerator","denominator","divisor"] ["numerator","denominator"] (aw rN):=⟨rfl,rfl,rfl,by decide +kernel,rfl,by decide +kernel,by decide +kernel⟩
noncomputable def iT (K:PySem.W.Frag):Sp:=bP (fun (x:Int×Int) vs _=>vs=[.int x.1,.int x.2]∧x.2≠0) (fun x r H=>rFr K H r (Rat.divInt x.1 x.2))
theorem Ai (i:Int):(if i < 0 then -i else i)=(i.natAbs:Int):=by split <;> omega
theorem Db {n d:Int} (hd:0 < d):n.fdiv (Int.gcd n d:Nat)=(Rat.divInt n d).num∧d.fdiv (Int.gcd n d:Nat)=((Rat.divInt n d).den:Int):=by
 obtain⟨m,rfl⟩:=Int.eq_ofNat_of_zero_le (by omega:0≤d)
 have e:Rat.divInt n (m:Int)=mkRat n m:=Rat.divInt_ofNat ..
 obtain⟨h1,h2⟩:=BM.gV n m (by omega)
 have e2:Int.gcd n (m:Int)=Nat.gcd n.natAbs m:=rfl
 rw [e,h1,h2,e2,Int.fdiv_eq_ediv_of_nonneg _ (by omega),Int.fdiv_eq_ediv_of_nonneg _ (by omega)]
 exact⟨rfl,rfl⟩
theorem Ir {n d:Int} (hd:d < 0):n.fdiv (-(Int.gcd n d:Nat))=(Rat.divInt n d).num∧d.fdiv (-(Int.gcd n d:Nat))=((Rat.divInt n d).den:Int):=by
 have e:Rat.divInt n d=Rat.divInt (-n) (-d):=(Rat.neg_divInt_neg n d).symm
 obtain⟨h1,h2⟩:=Db (n:=-n) (d:=-d) (by omega)
 rw [Int.gcd_neg,Int.neg_gcd] at h1 h2
 rw [e,←h1,←h2]
 have a:=Int.neg_fdiv_neg (-n) (Int.gcd n d:Nat)
 have b:=Int.neg_fdiv_neg (-d) (Int.gcd n d:Nat)
 rw [Int.neg_neg] at a b
 exact⟨a,b⟩
theorem Kc {f:Addr} {fd:FuncData} (T:Tx P K mg base ad) (F:Fun K "lowest" "lowest" rN f fd) (bi:Fb P w K mg base 40 "greatest_divisor" ["a","b"] CS):FnOk P w K mg base CX0 41 f fd ["numerator","denominator"] (iT K):=by
 refine bb (F.ok sc_lowest (fun vs H Q E h=>?_) (fun cdv A outer s H vs Q E hr h=>?_))
 ·obtain⟨x,⟨rfl,_⟩,_⟩:=h; rfl
 ·obtain⟨⟨n,d⟩,⟨rfl,hd⟩,k⟩:=h
  have hd:d≠0:=hd
  have dv:=pY (N:=["numerator","denominator","divisor"]) (E:=E) (H:=H) (outer:=outer) (K:=K) (mg:=mg) (w:=w) T.seer T.tree sc_lowest hr (by decide)
  refine⟨_,(ag (aF (i:=2) sc_lowest.nd rfl (Or.inl rfl) (aP bi (hr.mono (by decide)) rfl (aa (ba kY rfl T.p0 kZ (aa (pv 0) ah)) (aa (ba kY rfl T.p0 kZ (aa (pv 1) ah)) ah))))
   (ag (aS (aE r8 (pv 1) am (aK _)) (aj (aF (i:=2) sc_lowest.nd rfl (Or.inl rfl) (rY mf (pv 2)))) aC)
   (aj (ay (bq (aa (aR (r9 dv) (pv 0) (pv 2)) (aa (aR (r9 dv) (pv 1) (pv 2)) ah))))))),?_⟩
  refine⟨_,rfl,n,rfl,_,rfl,d,rfl,_,_,rfl,(by rw [Ai]; omega),(by rw [Ai]; omega),?_⟩
  have eg:Int.gcd (if n < 0 then -n else n) (if d < 0 then -d else d)=Int.gcd n d:=by rw [Ai,Ai]; rfl
  rw [eg]
  have hg:(Int.gcd n d:Int)≠0:=by
   intro z
   have:=Int.gcd_eq_zero_iff.mp (by omega:Int.gcd n d=0)
   exact hd this.2
  refine⟨_,rfl,d,0,rfl,rfl,_,rfl,dH (fun h=>?_) fun h=>?_⟩
  ·obtain⟨e1,e2⟩:=Ir (n:=n) h
   refine⟨_,rfl,_,rfl,?_⟩
   refine⟨_,rfl,_,rfl,n,_,rfl,rfl,(by show -(Int.gcd n d:Int)≠0; omega),_,rfl,_,rfl,d,_,rfl,rfl,(by show -(Int.gcd n d:Int)≠0; omega),(by show 2≤sizeLine; decide),fun p hp=>?_⟩
   refine k _ _ (Same.new hp) ⟨p,rfl,SqT.of ?_⟩
   rw [af,←e1,←e2]
  ·obtain⟨e1,e2⟩:=Db (n:=n) (d:=d) (by omega)
   refine⟨_,rfl,_,rfl,n,_,rfl,rfl,(by show(Int.gcd n d:Int)≠0; omega),_,rfl,_,rfl,d,_,rfl,rfl,(by show(Int.gcd n d:Int)≠0; omega),(by show 2≤sizeLine; decide),fun p hp=>?_⟩
   refine k _ _ (Same.new hp) ⟨p,rfl,SqT.of ?_⟩
   rw [af,←e1,←e2]
noncomputable abbrev rL:Stmt:=top 27
theorem Eg:aD ["fraction"] ["fraction"] (aw rL):=⟨rfl,rfl,rfl,by decide +kernel,rfl,by decide +kernel,by decide +kernel⟩
noncomputable def JU (K:PySem.W.Frag):Sp:=fun vs H Q _=>∃v q,vs=[v]∧rFr K H v q∧Q (.int (BM.wt q:Nat)) H
theorem k0 (i:Int):Builtin.Int.intBits i=Vagraa.bits i.natAbs:=by
 unfold Builtin.Int.intBits Vagraa.bits
 by_cases h:i=0
 ·subst h; rfl
 ·rw [if_neg (by simpa using h),if_neg (by omega)]
theorem El {f:Addr} {fd:FuncData} (T:Tx P K mg base ad) (F:Fun K "weight" "weight" rL f fd):FnOk P w K mg base CX0 40 f fd ["fraction"] (JU K):=by
 refine F.ok Eg (fun vs H Q E h=>?_) (fun cdv A outer s H vs Q E hr h=>?_)
 ·obtain⟨_,_,rfl,_⟩:=h; rfl
 ·obtain⟨v,q,rfl,⟨p,rfl,hp⟩,k⟩:=h
  refine⟨_,(aj (ay (aR cu (Bp PySem.F.plainAttrs_int slot_int_bit_length type_int_bit_length vp (ba kY rfl T.p0 kZ (aa (aA aG (pv 0) am (fun _ _=>rfl)) ah))) (Bp PySem.F.plainAttrs_int slot_int_bit_length type_int_bit_length vp (aA aG (pv 0) am (fun _ _=>rfl)))))),?_⟩
  refine⟨_,rfl,p,_,0,_,rfl,rfl,hp,rfl,q.num,rfl,rfl,_,rfl,rfl,_,rfl,p,_,1,_,rfl,rfl,hp,rfl,rfl,_,rfl,rfl,_,_,rfl,rfl,?_⟩
  have e:(Builtin.Int.intBits (if q.num < 0 then -q.num else q.num):Int)+(Builtin.Int.intBits (q.den:Int):Int)=((BM.wt q:Nat):Int):=by
   rw [k0,k0,Ai]
   rfl
  rw [←e] at k
  exact k
noncomputable def Sm (q:Rat):Prop:=BM.wt q≤10000
theorem Sm.num {q:Rat} (h:Sm q):Builtin.Int.intBits q.num≤10000:=by
 rw [k0]
 have h:Vagraa.bits q.num.natAbs+Vagraa.bits q.den≤10000:=h
 omega
theorem Sm.den {q:Rat} (h:Sm q):Builtin.Int.intBits (q.den:Int)≤10000:=by
 rw [k0]
 have h:Vagraa.bits q.num.natAbs+Vagraa.bits q.den≤10000:=h
 show Vagraa.bits q.den≤10000
 omega
theorem cR {a b:Int} (ha:Builtin.Int.intBits a≤10000) (hb:Builtin.Int.intBits b≤10000):IntMulOk a b:=IntMulOk.of_le ha hb (by decide)
theorem kP (q:Rat):(q.den:Int)≠0:=by have:=q.den_nz; omega
theorem Jd (a b:Rat):Rat.divInt (a.num*b.den+b.num*a.den) (a.den*b.den)=a+b:=by
 rw [Rat.add_def',←Rat.divInt_ofNat,Int.natCast_mul]
theorem HH (a b:Rat):Rat.divInt (a.num*b.den - b.num*a.den) (a.den*b.den)=a - b:=by
 rw [Rat.sub_def',←Rat.divInt_ofNat,Int.natCast_mul]
theorem Ik (a b:Rat):Rat.divInt (a.num*b.num) (a.den*b.den)=a*b:=by
 rw [Rat.mul_def',←Rat.divInt_ofNat,Int.natCast_mul]
theorem IT (a b:Rat):Rat.divInt (a.num*b.den) (a.den*b.num)=a / b:=by
 rw [Rat.div_def,Rat.inv_def]
 conv=>rhs; lhs; rw [←Rat.num_divInt_den a]
 rw [Rat.divInt_mul_divInt]
noncomputable def kb (K:PySem.W.Frag) (g:Rat→Rat→Rat):Sp:=bP (fun (x:Rat×Rat) vs H=>∃va vb,vs=[va,vb]∧rFr K H va x.1∧rFr K H vb x.2∧Sm x.1∧Sm x.2) (fun x r H=>rFr K H r (g x.1 x.2))
noncomputable def yG (K:PySem.W.Frag):Sp:=bP (fun (x:Rat×Rat) vs H=>∃va vb,vs=[va,vb]∧rFr K H va x.1∧rFr K H vb x.2∧Sm x.1∧Sm x.2∧x.2≠0) (fun x r H=>rFr K H r (x.1 / x.2))
noncomputable def yD (K:PySem.W.Frag):Sp:=bP (fun (x:Rat) vs H=>∃va,vs=[va]∧rFr K H va x) (fun x r H=>rFr K H r (-x))
noncomputable abbrev FU:Stmt:=top 28
theorem JZ:aD ["a","b"] ["a","b"] (aw FU):=⟨rfl,rfl,rfl,by decide +kernel,rfl,by decide +kernel,by decide +kernel⟩
theorem Kg {f:Addr} {fd:FuncData} (F:Fun K "add" "add" FU f fd) (bR:Fb P w K mg base 41 "lowest" ["numerator","denominator"] (iT K)):FnOk P w K mg base CX0 42 f fd ["a","b"] (kb K (fun a b=>a+b)):=by
 refine bb (F.ok JZ (fun vs H Q E h=>?_) (fun cdv A outer s H vs Q E hr h=>?_))
 ·obtain⟨x,⟨_,_,rfl,_⟩,_⟩:=h; rfl
 ·obtain⟨⟨a,b⟩,⟨va,vb,rfl,⟨pa,rfl,ha⟩,⟨pb,rfl,hb⟩,sa,sb⟩,k⟩:=h
  have sa:Sm a:=sa
  have sb:Sm b:=sb
  refine⟨_,(aj (ay (aP bR (hr.mono (by decide)) rfl (aa (aR cu (aR bv (aA aG (pv 0) am (fun _ _=>rfl)) (aA aG (pv 1) am (fun _ _=>rfl))) (aR bv (aA aG (pv 1) am (fun _ _=>rfl)) (aA aG (pv 0) am (fun _ _=>rfl)))) (aa (aR bv (aA aG (pv 0) am (fun _ _=>rfl)) (aA aG (pv 1) am (fun _ _=>rfl))) ah))))),?_⟩
  refine⟨_,rfl,pa,_,0,_,rfl,rfl,ha,rfl,_,rfl,pb,_,1,_,rfl,rfl,hb,rfl,_,_,rfl,rfl,cR sa.num sb.den,_,rfl,pb,_,0,_,rfl,rfl,hb,rfl,_,rfl,pa,_,1,_,rfl,rfl,ha,rfl,_,_,rfl,rfl,cR sb.num sa.den,_,_,rfl,rfl,_,rfl,pa,_,1,_,rfl,rfl,ha,rfl,_,rfl,pb,_,1,_,rfl,rfl,hb,rfl,_,_,rfl,rfl,cR sa.den sb.den,show iT K [_,_] H Q E0 from bZ (a.num*b.den+b.num*a.den,a.den*b.den) ⟨rfl,?_⟩ fun H' r s' h=>k H' r s' ?_⟩
  ·have h1:=kP a
   have h2:=kP b
   exact Int.mul_ne_zero h1 h2
  ·rw [Jd] at h
   exact h
noncomputable abbrev mr:Stmt:=top 29
theorem yQ:aD ["a","b"] ["a","b"] (aw mr):=⟨rfl,rfl,rfl,by decide +kernel,rfl,by decide +kernel,by decide +kernel⟩
theorem ze {f:Addr} {fd:FuncData} (F:Fun K "subtract" "subtract" mr f fd) (bR:Fb P w K mg base 41 "lowest" ["numerator","denominator"] (iT K)):FnOk P w K mg base CX0 42 f fd ["a","b"] (kb K (fun a b=>a - b)):=by
 refine bb (F.ok yQ (fun vs H Q E h=>?_) (fun cdv A outer s H vs Q E hr h=>?_))
 ·obtain⟨x,⟨_,_,rfl,_⟩,_⟩:=h; rfl
 ·obtain⟨⟨a,b⟩,⟨va,vb,rfl,⟨pa,rfl,ha⟩,⟨pb,rfl,hb⟩,sa,sb⟩,k⟩:=h
  have sa:Sm a:=sa
  have sb:Sm b:=sb
  refine⟨_,(aj (ay (aP bR (hr.mono (by decide)) rfl (aa (aR fE (aR bv (aA aG (pv 0) am (fun _ _=>rfl)) (aA aG (pv 1) am (fun _ _=>rfl))) (aR bv (aA aG (pv 1) am (fun _ _=>rfl)) (aA aG (pv 0) am (fun _ _=>rfl)))) (aa (aR bv (aA aG (pv 0) am (fun _ _=>rfl)) (aA aG (pv 1) am (fun _ _=>rfl))) ah))))),?_⟩
  refine⟨_,rfl,pa,_,0,_,rfl,rfl,ha,rfl,_,rfl,pb,_,1,_,rfl,rfl,hb,rfl,_,_,rfl,rfl,cR sa.num sb.den,_,rfl,pb,_,0,_,rfl,rfl,hb,rfl,_,rfl,pa,_,1,_,rfl,rfl,ha,rfl,_,_,rfl,rfl,cR sb.num sa.den,_,_,rfl,rfl,_,rfl,pa,_,1,_,rfl,rfl,ha,rfl,_,rfl,pb,_,1,_,rfl,rfl,hb,rfl,_,_,rfl,rfl,cR sa.den sb.den,show iT K [_,_] H Q E0 from bZ (a.num*b.den - b.num*a.den,a.den*b.den) ⟨rfl,?_⟩ fun H' r s' h=>k H' r s' ?_⟩
  ·have h1:=kP a
   have h2:=kP b
   exact Int.mul_ne_zero h1 h2
  ·rw [HH] at h
   exact h
noncomputable abbrev mw:Stmt:=top 30
theorem yS:aD ["a","b"] ["a","b"] (aw mw):=⟨rfl,rfl,rfl,by decide +kernel,rfl,by decide +kernel,by decide +kernel⟩
theorem zi {f:Addr} {fd:FuncData} (F:Fun K "multiply" "multiply" mw f fd) (bR:Fb P w K mg base 41 "lowest" ["numerator","denominator"] (iT K)):FnOk P w K mg base CX0 42 f fd ["a","b"] (kb K (fun a b=>a*b)):=by
 refine bb (F.ok yS (fun vs H Q E h=>?_) (fun cdv A outer s H vs Q E hr h=>?_))
 ·obtain⟨x,⟨_,_,rfl,_⟩,_⟩:=h; rfl
 ·obtain⟨⟨a,b⟩,⟨va,vb,rfl,⟨pa,rfl,ha⟩,⟨pb,rfl,hb⟩,sa,sb⟩,k⟩:=h
  have sa:Sm a:=sa
  have sb:Sm b:=sb
  refine⟨_,(aj (ay (aP bR (hr.mono (by decide)) rfl (aa (aR bv (aA aG (pv 0) am (fun _ _=>rfl)) (aA aG (pv 1) am (fun _ _=>rfl))) (aa (aR bv (aA aG (pv 0) am (fun _ _=>rfl)) (aA aG (pv 1) am (fun _ _=>rfl))) ah))))),?_⟩
  refine⟨_,rfl,pa,_,0,_,rfl,rfl,ha,rfl,_,rfl,pb,_,0,_,rfl,rfl,hb,rfl,_,_,rfl,rfl,cR sa.num sb.num,_,rfl,pa,_,1,_,rfl,rfl,ha,rfl,_,rfl,pb,_,1,_,rfl,rfl,hb,rfl,_,_,rfl,rfl,cR sa.den sb.den,show iT K [_,_] H Q E0 from bZ (a.num*b.num,a.den*b.den) ⟨rfl,?_⟩ fun H' r s' h=>k H' r s' ?_⟩
  ·have h1:=kP a
   have h2:=kP b
   exact Int.mul_ne_zero h1 h2
  ·rw [Ik] at h
   exact h
noncomputable abbrev rP:Stmt:=top 31
theorem Eh:aD ["a","b"] ["a","b"] (aw rP):=⟨rfl,rfl,rfl,by decide +kernel,rfl,by decide +kernel,by decide +kernel⟩
theorem Ep {f:Addr} {fd:FuncData} (F:Fun K "divide" "divide" rP f fd) (bR:Fb P w K mg base 41 "lowest" ["numerator","denominator"] (iT K)):FnOk P w K mg base CX0 42 f fd ["a","b"] (yG K):=by
 refine bb (F.ok Eh (fun vs H Q E h=>?_) (fun cdv A outer s H vs Q E hr h=>?_))
 ·obtain⟨x,⟨_,_,rfl,_⟩,_⟩:=h; rfl
 ·obtain⟨⟨a,b⟩,⟨va,vb,rfl,⟨pa,rfl,ha⟩,⟨pb,rfl,hb⟩,sa,sb,hne⟩,k⟩:=h
  have sa:Sm a:=sa
  have sb:Sm b:=sb
  refine⟨_,(aj (ay (aP bR (hr.mono (by decide)) rfl (aa (aR bv (aA aG (pv 0) am (fun _ _=>rfl)) (aA aG (pv 1) am (fun _ _=>rfl))) (aa (aR bv (aA aG (pv 0) am (fun _ _=>rfl)) (aA aG (pv 1) am (fun _ _=>rfl))) ah))))),?_⟩
  refine⟨_,rfl,pa,_,0,_,rfl,rfl,ha,rfl,_,rfl,pb,_,1,_,rfl,rfl,hb,rfl,_,_,rfl,rfl,cR sa.num sb.den,_,rfl,pa,_,1,_,rfl,rfl,ha,rfl,_,rfl,pb,_,0,_,rfl,rfl,hb,rfl,_,_,rfl,rfl,cR sa.den sb.num,show iT K [_,_] H Q E0 from bZ (a.num*b.den,a.den*b.num) ⟨rfl,?_⟩ fun H' r s' h=>k H' r s' ?_⟩
  ·have h1:=kP a
   have h2:=kP b
   exact Int.mul_ne_zero h1 (fun z=>hne (Rat.num_eq_zero.mp z))
  ·rw [IT] at h
   exact h
noncomputable abbrev mv:Stmt:=top 32
theorem yR:aD ["a"] ["a"] (aw mv):=⟨rfl,rfl,rfl,by decide +kernel,rfl,by decide +kernel,by decide +kernel⟩
theorem zh {f:Addr} {fd:FuncData} (F:Fun K "opposite" "opposite" mv f fd):FnOk P w K mg base CX0 40 f fd ["a"] (yD K):=by
 refine bb (F.ok yR (fun vs H Q E h=>?_) (fun cdv A outer s H vs Q E hr h=>?_))
 ·obtain⟨x,⟨_,rfl,_⟩,_⟩:=h; rfl
 ·obtain⟨a,⟨va,rfl,⟨pa,rfl,ha⟩⟩,k⟩:=h
  refine⟨_,(aj (ay (bq (aa (rY mf (aA aG (pv 0) am (fun _ _=>rfl))) (aa (aA aG (pv 0) am (fun _ _=>rfl)) ah))))),?_⟩
  refine⟨_,rfl,pa,_,0,_,rfl,rfl,ha,rfl,_,rfl,_,rfl,pa,_,1,_,rfl,rfl,ha,rfl,(by show 2≤sizeLine; decide),fun p hp=>?_⟩
  refine k _ _ (Same.new hp) ⟨p,rfl,SqT.of ?_⟩
  rw [af]
  rfl
end
end B
namespace B
open PySem PySem.Spec PyProof.Rows L2
section
variable {P:Program} {w:World} {K:PySem.W.Frag} {mg:Str→Option Value} {base:Heap} {ad:Ad}
theorem two_mul {i:Int}:IntMulOk 2 i:=.of_left (by decide)
noncomputable abbrev fw:Stmt:=top 33
theorem sc_read_fractions:aD ["numbers","count","fractions","k"] ["numbers","count"] (aw fw):=⟨rfl,rfl,rfl,by decide +kernel,rfl,by decide +kernel,by decide +kernel⟩
noncomputable def gG (K:PySem.W.Frag):Sp:=bP (fun (x:List Int×Nat) vs H=>∃v,vs=[v,.int (x.2:Int)]∧rLI K H v x.1∧x.2 < 1000) (fun x r H=>cf (rLstT (rFr K)) H r (BM.rdF x.1 x.2))
theorem tm {n d:Int} (h:1≤d):Rat.divInt n d=mkRat n d.toNat:=by
 obtain⟨m,rfl⟩:=Int.eq_ofNat_of_zero_le (by omega:0≤d)
 exact Rat.divInt_ofNat ..
theorem g5 {ns:List Int} {i:Nat} {n:Int} (h:ns[i]?= some n):(ns.map V.int)[i]?= some (V.int n):=by
 rw [List.getElem?_map,h]; rfl
theorem Ib {f:Addr} {fd:FuncData} (T:Tx P K mg base ad) (F:Fun K "read_fractions" "read_fractions" fw f fd) (bR:Fb P w K mg base 41 "lowest" ["numerator","denominator"] (iT K)):FnOk P w K mg base CX0 42 f fd ["numbers","count"] (gG K):=by
 refine bb (F.ok sc_read_fractions (fun vs H Q E h=>?_) (fun cdv A outer s H vs Q E hr h=>?_))
 ·obtain⟨x,⟨_,rfl,_⟩,_⟩:=h; rfl
 ·obtain⟨⟨ns,c⟩,⟨v,rfl,⟨a,rfl,ha⟩,hc⟩,k⟩:=h
  have ha:SqL K H a (ns.map V.int):=ha
  have hc:c < 1000:=hc
  refine⟨_,(ag (aS (aE Ga (ba (iX (K:=K) rfl) rfl T.du PySem.boot_len (aa (pv 0) ah)) (aR bv am (pv 1)) (aK _)) (aj (ay bM)) aC)
   (ag (aF (i:=2) sc_read_fractions.nd rfl (Or.inl rfl) (aN ah))
   (ag (cV PassesOwn.never rfl (d8 rfl T.cN (aa (pv 1) ah)) (a7 (i:=3) sc_read_fractions.nd rfl (Or.inl rfl) (hf:=Or.inl rfl))
    (ag (aS (aE r8 (aA aQ (pv 0) (aR cu (aR bv am (pv 3)) am) (fun _ _=>rfl)) am (aK _)) (aj (ay bM)) aC)
    (aj (bX (d9 PySem.F.plainAttrs_list PySem.F.slot_list_append PySem.F.type_list_append b9 (pv 2) (aa (aP bR (hr.mono (by decide)) rfl (aa (aA aQ (pv 0) (aR bv am (pv 3)) (fun _ _=>rfl)) (aa (aA aQ (pv 0) (aR cu (aR bv am (pv 3)) am) (fun _ _=>rfl)) ah))) ah))))))
   (aj (ay (pv 2)))))),?_⟩
  refine⟨_,rfl,a,_,rfl,.inl ha,_,rfl,_,_,rfl,rfl,two_mul,rfl,_,rfl,dQ (fun h=>?_) fun h=>?_⟩
  ·
   refine k _ _ (Same.refl _) ?_
   have hl:ns.length≠2*c:=fun z=>h (by rw [List.length_map,z]; exact congrArg V.int (by omega))
   have e:BM.rdF ns c=none:=by
    unfold BM.rdF
    cases z:BM.ratsOf ns with
    | none=>rfl
    | some q=>
     have:=BM.Bk ns q z
     show(if q.length=c then some q else none)=none
     rw [if_neg (by omega)]
   show cf _ H .non (BM.rdF ns c)
   rw [e]
   rfl
  ·have hl:ns.length=2*c:=by
    rw [List.length_map] at h
    injection h with h
    omega
   refine⟨Nat.zero_le _,fun l hl'=>?_⟩
   have nl:H l=none:=hl'
   refine⟨_,rfl,(c:Int),rfl,(by omega),(by omega),?_⟩
   refine i7 (fun i σ H'=>∃(v3:Option V) (vs:List V) (qs:List Rat),σ=[some (.ref a),some (.int c),some (.ref l),v3]∧Same H H'∧H' l=some (.lst vs)∧Paired (rFr K (hide (at1 l) H')) vs qs∧qs.length=i∧BM.ratsOf (ns.take (2*i))=some qs)
    ⟨none,[],[],rfl,Same.new nl,af,.nil,rfl,rfl⟩ ?_ ?_
   ·rintro i σ H' hi ⟨v3,vs,qs,rfl,hs,hv,hp,hq,hr'⟩
    have hi:i < c:=by omega
    obtain⟨n,hn⟩:∃n,ns[2*i]?= some n:=⟨_,List.getElem?_eq_getElem (by omega)⟩
    obtain⟨d,hd⟩:∃d,ns[2*i+1]?= some d:=⟨_,List.getElem?_eq_getElem (by omega)⟩
    have e0:=BM.JT hn hd
    have e1:=BM.rV n d (ns.drop (2*i+2)) _ qs hr'
    have ha':=hs.seq ha
    refine⟨_,rfl,_,rfl,_,_,rfl,rfl,two_mul,_,_,rfl,rfl,a,_,_,_,rfl,rfl,ha',bW (j:=2*i+1) (by omega) (g5 hd),_,_,rfl,rfl,_,rfl,dH (fun h=>?_) fun h=>?_⟩
    ·refine k _ _ hs ?_
     have e:BM.rdF ns c=none:=by
      unfold BM.rdF
      rw [e0,e1,if_pos (by omega)]
      rfl
     show cf _ _ .non (BM.rdF ns c)
     rw [e]
     rfl
    ·refine⟨_,rfl,.inl ⟨rfl,_,SqL.of hv⟩,_,rfl,_,rfl,_,_,rfl,rfl,two_mul,a,_,_,_,rfl,rfl,ha',bW (j:=2*i) (by omega) (g5 hn),
      _,rfl,_,rfl,_,_,rfl,rfl,two_mul,_,_,rfl,rfl,a,_,_,_,rfl,rfl,ha',bW (j:=2*i+1) (by omega) (g5 hd),
      show iT K [_,_] H' _ E0 from DT (n,d) hv ⟨rfl,(by show d≠0; omega)⟩ fun H2 r s2 h2=>?_⟩
     have h2:rFr K (hide (at1 l) H2) r (Rat.divInt n d):=h2
     rw [tm (by omega)] at h2
     have hvl:=aJ hp
     refine⟨l,_,_,rfl,rfl,s2 l _ hv,(by rw [hvl,hq]; exact bu (by omega)),?_⟩
     refine⟨_,_,qs++[mkRat n d.toNat],rfl,(hs.trans s2).upd1 nl,af,?_,by rw [List.length_append,hq]; rfl,?_⟩
     ·rw [dR]
      exact bz (aT mFr s2.hide hp) h2
     ·have e2:ns.take (2*(i+1))=ns.take (2*i)++n::d::[]:=by
       have z:2*(i+1)=(ns.take (2*i)).length+2:=by rw [List.length_take]; omega
       conv=>lhs; rw [e0,z]
       rw [List.take_length_add_append]
       rfl
      have e3:=BM.rV n d [] _ qs hr'
      rw [if_neg (by omega)] at e3
      rw [e2,e3]
      rfl
   ·rintro σ H' ⟨v3,vs,qs,rfl,hs,hv,hp,hq,hr'⟩
    refine⟨_,rfl,k _ _ hs ?_⟩
    have hq:qs.length=c:=by rw [hq]; omega
    have e2:ns.take (2*(Int.toNat c))=ns:=List.take_of_length_le (by omega)
    have e:BM.rdF ns c=some qs:=by
     unfold BM.rdF
     rw [e2] at hr'
     rw [hr']
     show(if qs.length=c then some qs else none)=_
     rw [if_pos hq]
    show cf _ H' (.ref l) (BM.rdF ns c)
    rw [e]
    exact⟨(fun z=>by cases z),l,vs,rfl,hv,aT mFr hide_same hp⟩
noncomputable abbrev f8:Stmt:=top 26
theorem sc_lowest_within:aD ["numerator","denominator","most","a","b","rounds","rest","fraction"] ["numerator","denominator","most"] (aw f8):=⟨rfl,rfl,rfl,by decide +kernel,rfl,by decide +kernel,by decide +kernel⟩
noncomputable def AZ (K:PySem.W.Frag):Sp:=bP (fun (x:(Int×Int)×Nat) vs _=>vs=[.int x.1.1,.int x.1.2,.int (x.2:Int)]∧0 < x.1.2∧x.2≤1000000) (fun x r H=>cf (rFr K) H r (if x.2 < BM.wt (Rat.divInt x.1.1 x.1.2) then none else some (Rat.divInt x.1.1 x.1.2)))
theorem Ig {f:Addr} {fd:FuncData} (T:Tx P K mg base ad) (F:Fun K "lowest_within" "lowest_within" f8 f fd) (iZ:Fb P w K mg base 40 "weight" ["fraction"] (JU K)):FnOk P w K mg base CX0 41 f fd ["numerator","denominator","most"] (AZ K):=by
 refine bb (F.ok sc_lowest_within (fun vs H Q E h=>?_) (fun cdv A outer s H vs Q E hr h=>?_))
 ·obtain⟨x,⟨rfl,_⟩,_⟩:=h; rfl
 ·obtain⟨⟨⟨n,d⟩,m⟩,⟨rfl,hd,hm⟩,k⟩:=h
  have hd:0 < d:=hd
  have hm:m≤1000000:=hm
  have dv:=pY (N:=["numerator","denominator","most","a","b","rounds","rest","fraction"]) (E:=E) (H:=H) (outer:=outer) (K:=K) (mg:=mg) (w:=w) T.seer T.tree sc_lowest_within hr (by decide)
  obtain⟨e,rfl⟩:=Int.eq_ofNat_of_zero_le (by omega:0≤d)
  have hew:=BM.LT (n:=n) (d:=e) (by omega)
  have hdiv:Rat.divInt n (e:Int)=mkRat n e:=Rat.divInt_ofNat ..
  refine⟨_,(ag (aF (i:=3) sc_lowest_within.nd rfl (Or.inl rfl) (ba kY rfl T.p0 kZ (aa (pv 0) ah)))
   (ag (aF (i:=4) sc_lowest_within.nd rfl (Or.inl rfl) (pv 1))
   (ag (aF (i:=5) sc_lowest_within.nd rfl (Or.inl rfl) am)
   (ag (iV PassesOwn.never (aW (pv 4) (fun _=>rfl))
    (ag (aS (aE vm (pv 5) (aR bv am (pv 2)) (aK _)) (aj (ay bM)) aC)
    (ag (aF (i:=6) sc_lowest_within.nd rfl (Or.inl rfl) (aR Gb (pv 3) (pv 4)))
    (ag (aF (i:=3) sc_lowest_within.nd rfl (Or.inl rfl) (pv 4))
    (ag (aF (i:=4) sc_lowest_within.nd rfl (Or.inl rfl) (pv 6))
    (aj (wz (i:=5) sc_lowest_within.nd rfl (Or.inl rfl) am wX)))))))
   (ag (aF (i:=7) sc_lowest_within.nd rfl (Or.inl rfl) (bq (aa (aR (dP dv) (pv 0) (pv 3)) (aa (aR (dP dv) (pv 1) (pv 3)) ah))))
   (ag (aS (aE vm (aP iZ (hr.mono (by decide)) rfl (aa (pv 7) ah)) (pv 2) (aK _)) (aj (ay bM)) aC)
   (aj (ay (pv 7))))))))),?_⟩
  refine⟨_,rfl,n,rfl,?_⟩
  refine⟨_,rfl,?_⟩
  dsimp only [DY,yA,nP,tC]
  refine j7 (fun σ H'=>∃(a b r:Nat) (v6:Option V),σ=[some (.int n),some (.int e),some (.int m),some (.int a),some (.int b),some (.int r),v6,none]∧H'=H∧Nat.gcd a b=Nat.gcd n.natAbs e∧r+BM.es a b=BM.es n.natAbs e) (fun σ _=>match σ with | [_,_,_,_,some (.int b'),_,_,_]=>b'.toNat | _=>0)
   ⟨n.natAbs,e,0,none,by rw [←Ai]; rfl,rfl,rfl,by omega⟩ ?_ (fun σ H Q Q' h ⟨v,e,k,t,q⟩=>⟨v,e,k,t,h _ _ q⟩)
  rintro σ H' ⟨a,b,r,v6,rfl,rfl,hg,hes⟩
  refine⟨_,rfl,_,rfl,nJ (fun h0=>?_) fun h0=>?_⟩
  ·have h0:b≠0:=by omega
   have e1:=BM.sY (a:=a) h0
   refine⟨_,rfl,_,rfl,_,_,rfl,rfl,two_mul,_,_,rfl,rfl,_,rfl,dH (fun h=>?_) fun h=>?_⟩
   ·refine k _ _ (Same.refl _) ?_
    show cf _ H' .non (if m < BM.wt (Rat.divInt n (e:Int)) then none else _)
    rw [hdiv,if_pos (by omega)]
    rfl
   ·have hlt:=Nat.mod_lt a (Nat.pos_of_ne_zero h0)
    refine⟨_,rfl,_,rfl,_,_,rfl,rfl,(by show(0:Int) < b; omega),?_⟩
    refine⟨_,rfl,?_⟩
    refine⟨_,rfl,?_⟩
    refine⟨_,rfl,_,_,rfl,rfl,?_⟩
    refine⟨⟨b,a % b,r+1,_,rfl,rfl,?_,by omega⟩,by show((a:Int) % (b:Int)).toNat < (b:Int).toNat; omega⟩
    rw [←hg,Nat.gcd_comm,←Nat.gcd_rec,Nat.gcd_comm]
  ·have h0:b=0:=by omega
   subst h0
   rw [Nat.gcd_zero_right] at hg
   have hgp:0 < Nat.gcd n.natAbs e:=Nat.gcd_pos_of_pos_right _ (by omega)
   obtain⟨q1,q2⟩:=BM.gV n e (by omega)
   refine⟨_,rfl,_,rfl,_,_,rfl,rfl,(by show(0:Int) < a; omega),_,rfl,_,rfl,_,_,rfl,rfl,(by show(0:Int) < a; omega),(by show 2≤sizeLine; decide),fun p hp=>?_⟩
   have hfr:rFr K (upd H' p (.tup [.int (n / (a:Int)),.int ((e:Int) / (a:Int))])) (.ref p) (mkRat n e):=by
    refine⟨p,rfl,SqT.of ?_⟩
    rw [af,q1,q2,hg]
    rfl
   refine⟨_,rfl,_,_,rfl,hfr,?_⟩
   refine⟨_,rfl,_,_,rfl,rfl,_,rfl,dH (fun h=>?_) fun h=>?_⟩
   ·refine k _ _ (Same.new hp) ?_
    show cf _ _ .non (if m < BM.wt (Rat.divInt n (e:Int)) then none else _)
    rw [hdiv,if_pos (by omega)]
    rfl
   ·refine⟨_,rfl,k _ _ (Same.new hp) ?_⟩
    show cf _ _ (.ref p) (if m < BM.wt (Rat.divInt n (e:Int)) then none else some (Rat.divInt n (e:Int)))
    rw [hdiv,if_neg (by omega)]
    exact⟨(fun z=>by cases z),hfr⟩
end
end B
namespace B
open PySem PySem.Spec PyProof.Rows L2
theorem sV {K:PySem.W.Frag} {a:Addr} {xs:List V} {g:TG} {tb:TS} {D:t6} {σ:L2.St} {H:Hp} (Pv:Nat→L2.St→Hp→Prop) (h0:Pv 0 σ H) (hl:∀i σ H,i≤xs.length→Pv i σ H→SqL K H a xs)
  (hs:∀i x σ H T,xs[i]?= some x→Pv i σ H→H T=none→g (.ref T) σ (upd H T (.tup [.int (i:Nat),x])) fun σ2 H2=>tb {D with nx:=Pv (i+1),ct:=Pv (i+1),bk:=D.nx} σ2 H2) (hd:∀σ H,Pv xs.length σ H→D.nx σ H):
  ∃W:Nat→Nat→L2.St→Hp→Prop,(∃m,W 0 m σ H)∧∀i m σ H,W i m σ H→
   ((Ite K a).stop i H∧D.nx σ H)∨((Ite K a).go i H∧∃N:L2.St→Hp→Prop,(∀σ' H',N σ' H'→∃m',m' < m∧W (i+1) m' σ' H')∧∀x H',(Ite K a).yld i H x H'→g x σ H' fun σ2 H2=>tb {D with nx:=N,ct:=N,bk:=D.nx} σ2 H2):=by
 refine⟨fun i m σ H=>m=xs.length - i∧i≤xs.length∧Pv i σ H,⟨xs.length,by simp,Nat.zero_le _,h0⟩,?_⟩
 rintro i m σ H ⟨rfl,hi,p⟩
 have q:=hl i σ H hi p
 by_cases hlt:i < xs.length
 ·refine .inr ⟨⟨xs,xs[i],q,by simp [hlt]⟩,Pv (i+1),fun σ' H' p'=>⟨xs.length - (i+1),by omega,rfl,hlt,p'⟩,fun x H' y=>?_⟩
  obtain⟨T,z,rfl,hT,rfl,y⟩:=y
  exact hs i z σ H T (y xs q) p hT
 ·have e:i=xs.length:=by omega
  subst e
  exact .inl ⟨⟨xs,q,Nat.le_refl _⟩,hd σ H p⟩
theorem Gr {K:PySem.W.Frag} {a b:Addr} {xs ys:List V} {g:TG} {tt:TT} {te:TE} {vs:List Nat} {σ:L2.St} {H1:Hp} {D:Addr} {Qd:Hp→Prop} (he:xs.length=ys.length) (Pv:Nat→Hp→Prop) (h0:Pv 0 (upd H1 D (.lst []))) (hl:∀i H,i≤xs.length→Pv i H→SqL K H a xs∧SqL K H b ys)
  (hs:∀i x y H T,xs[i]?= some x→ys[i]?= some y→Pv i H→H T=none→g (.ref T) (dY σ vs) (upd H T (.tup [x,y])) fun σ2 H2=>dY σ2 vs=dY σ vs∧tt σ2 H2 fun b H3=>
   if b=true then te σ2 H3 fun y H4=>∃acc,H4 D=some (.lst acc)∧acc.length < sizeLine∧Pv (i+1) (upd H4 D (.lst (acc++[y]))) else Pv (i+1) H3) (hd:∀H,Pv xs.length H→Qd H):
  ∃W:Nat→Nat→Hp→Prop,(∃m,W 0 m (upd H1 D (.lst [])))∧∀i m H,W i m H→
   ((Itz K a b).stop i H∧Qd H)∨((Itz K a b).go i H∧∃Nx:Hp→Prop,(∀H',Nx H'→∃m',m' < m∧W (i+1) m' H')∧∀x H',(Itz K a b).yld i H x H'→g x (dY σ vs) H' fun σ2 H2=>dY σ2 vs=dY σ vs∧tt σ2 H2 fun b H3=>
    if b=true then te σ2 H3 fun y H4=>∃acc,H4 D=some (.lst acc)∧acc.length < sizeLine∧Nx (upd H4 D (.lst (acc++[y]))) else Nx H3):=by
 refine⟨fun i m H=>m=xs.length - i∧i≤xs.length∧Pv i H,⟨xs.length,by simp,Nat.zero_le _,h0⟩,?_⟩
 rintro i m H ⟨rfl,hi,p⟩
 obtain⟨q1,q2⟩:=hl i H hi p
 by_cases hlt:i < xs.length
 ·refine .inr ⟨⟨xs,ys,xs[i],ys[i],q1,q2,by simp [hlt],by simp [he▸hlt]⟩,Pv (i+1),fun H' p'=>⟨xs.length - (i+1),by omega,rfl,hlt,p'⟩,fun x H' y=>?_⟩
  obtain⟨T,z,z2,rfl,hT,rfl,y1,y2⟩:=y
  exact hs i z z2 H T (y1 xs q1) (y2 ys q2) p hT
 ·have e:i=xs.length:=by omega
  subst e
  exact .inl ⟨⟨xs,ys,q1,q2,.inl (Nat.le_refl _)⟩,hd H p⟩
section
variable {K:PySem.W.Frag} {H:Hp} {l p:Addr} {xs ys:List V} {o:HO}
theorem qF (h:SqT K H p xs) (e:H l=some (.lst ys)):SqT K (upd H l o) p xs:=by
 rcases h with(h | ⟨u,h⟩) | h
 ·exact .inl (.inl (by rw [aq (zq h e (by intro z; cases z))]; exact h))
 ·exact .inl (.inr ⟨u,by rw [aq (zq h e (by intro z; cases z))]; exact h⟩)
 ·exact .inr h
theorem CZ {v:V} {q:Rat} (h:rFr K H v q) (e:H l=some (.lst ys)):rFr K (upd H l o) v q:=by
 obtain⟨a,rfl,h⟩:=h
 exact⟨a,rfl,qF h e⟩
theorem ck {v:V} {q:List Int} (h:rTI K H v q) (e:H l=some (.lst ys)):rTI K (upd H l o) v q:=by
 obtain⟨a,rfl,h⟩:=h
 exact⟨a,rfl,qF h e⟩
theorem bh {α:Type} {R:Rep α} {H':Hp} (f:∀v x,R H v x→R H' v x):∀{vs:List V} {xs:List α},Paired (R H) vs xs→Paired (R H') vs xs
 | _,_,.nil=>.nil
 | _,_,.cons r t=>.cons (f _ _ r) (bh f t)
end
theorem xx {xs:List V} {p q:Nat} (h:p≤xs.length) (hq:p≤q):lV xs (some (p:Int)) (some (q:Int))=(xs.drop p).take (q - p):=by
 unfold lV
 rw [HT.sIx_nat,HT.sIx_nat,Nat.min_eq_left h]
 by_cases z:q≤xs.length
 ·rw [Nat.min_eq_left z]
 ·rw [Nat.min_eq_right (by omega),List.take_of_length_le (by rw [List.length_drop]; omega),List.take_of_length_le (by rw [List.length_drop]; omega)]
end B
namespace B
open PySem PySem.Spec PyProof.Rows L2
theorem cp {c:Prop} [Decidable c] {A B:Prop} (h:c) (a:A):if decide c=true then A else B:=by rw [decide_eq_true h]; exact a
theorem aM {c:Prop} [Decidable c] {A B:Prop} (h:¬c) (b:B):if decide c=true then A else B:=by rw [decide_eq_false h]; exact b
section
variable {P:Program} {w:World} {K:PySem.W.Frag} {mg:Str→Option Value} {base:Heap} {ad:Ad}
theorem LA {op:Int} (h:0≤op) (h':op≤6):op=0∨op=1∨op=2∨op=3∨op=4∨op=5∨op=6:=by omega
theorem Ly {x m op:Int} (h:0≤op) (hm:m∈[op,x]) (ha:∀y,y∈[op,x]→m≤y):decide (0≤x)=decide (0≤m):=by
 have a1:=ha x (List.mem_cons_of_mem _ (List.mem_cons_self ..))
 have hm:m=op∨m=x:=(List.mem_cons.mp hm).imp id fun h=>List.mem_singleton.mp h
 exact decide_eq_decide.mpr (by omega)
theorem Ip {x y m op:Int} (h:0≤op) (hm:m∈[op,x,y]) (ha:∀z,z∈[op,x,y]→m≤z):(decide (0≤x) && decide (0≤y))=decide (0≤m):=by
 have a1:=ha x (List.mem_cons_of_mem _ (List.mem_cons_self ..))
 have a2:=ha y (List.mem_cons_of_mem _ (List.mem_cons_of_mem _ (List.mem_cons_self ..)))
 have hm:m=op∨m=x∨m=y:=(List.mem_cons.mp hm).imp id fun h=>(List.mem_cons.mp h).imp id fun h=>List.mem_singleton.mp h
 rw [←Bool.decide_and]
 exact decide_eq_decide.mpr (by omega)
theorem HA {op:Int} {r:List Int} {m:Int} (h:0≤op) (h':op≤6) (h1:op≠1) (hl:(op::r).length=BM.fj op) (hm:m∈op::r) (ha:∀y,y∈op::r→m≤y):BM.wfl (op::r)=decide (0≤m):=by
 rcases LA h h' with rfl | rfl | rfl | rfl | rfl | rfl | rfl
 ·match r,hl with
  | [x],_=>exact Ly h hm ha
 ·exact absurd rfl h1
 ·match r,hl with
  | [x,y],_=>exact Ip h hm ha
 ·match r,hl with
  | [x,y],_=>exact Ip h hm ha
 ·match r,hl with
  | [x,y],_=>exact Ip h hm ha
 ·match r,hl with
  | [x,y],_=>exact Ip h hm ha
 ·match r,hl with
  | [x],_=>exact Ly h hm ha
noncomputable abbrev iy:Stmt:=top 46
theorem rG:aD ["line"] ["line"] (aw iy):=⟨rfl,rfl,rfl,by decide +kernel,rfl,by decide +kernel,by decide +kernel⟩
noncomputable def Ld (K:PySem.W.Frag):Sp:=fun vs H Q _=>∃v op r,vs=[v]∧rTI K H v (op::r)∧0≤op∧op≤6∧(op::r).length=BM.fj op∧Q (.bl (BM.wfl (op::r))) H
theorem sf {f:Addr} {fd:FuncData} (T:Tx P K mg base ad) (F:Fun K "well_formed" "well_formed" iy f fd):FnOk P w K mg base CX0 40 f fd ["line"] (Ld K):=by
 refine F.ok rG (fun vs H Q E h=>?_) (fun cdv A outer s H vs Q E hr h=>?_)
 ·obtain⟨_,_,_,rfl,_⟩:=h; rfl
 ·obtain⟨v,op,r,rfl,⟨p,rfl,hp⟩,h0,h6,hl,k⟩:=h
  refine⟨_,(ag (aS (aE bN (aA aG (pv 0) am (fun _ _=>rfl)) (aO rfl T.d6) (aK _)) (aj (ay (nv za (aA aG (pv 0) am (fun _ _=>rfl)) am (aK _)))) aC)
   (aj (ay (nv za (ba (DI rfl) rfl T.tK nW (aa (pv 0) ah)) am (aK _))))),?_⟩
  refine⟨_,rfl,p,_,0,_,rfl,rfl,hp,bW (j:=0) rfl rfl,rfl,_,rfl,dH (fun h1=>?_) fun h1=>?_⟩
  ·injection h1 with h1
   subst h1
   match r,hl,hp,k with
   | [n,d],_,hp,k=>exact⟨_,rfl,p,_,2,_,rfl,rfl,hp,rfl,_,_,rfl,rfl,k⟩
  ·refine⟨_,rfl,p,op::r,rfl,hp,(by simp),fun m hm ha=>?_⟩
   rw [HA h0 h6 (fun z=>h1 (by rw [z])) hl hm ha] at k
   exact⟨_,_,rfl,rfl,k⟩
theorem bc {n:Nat} (h:n≤100000):n < sizeLine:=by rw [sizeLine_eq]; omega
noncomputable abbrev FT:Stmt:=top 1
theorem sc_cut:aD ["numbers","lengths","pieces","place","kind","behind"] ["numbers","lengths"] (aw FT):=⟨rfl,rfl,rfl,by decide +kernel,rfl,by decide +kernel,by decide +kernel⟩
noncomputable def vw (l:List Nat):List Int:=l.map fun (n:Nat)=>(n:Int)
noncomputable def yH (K:PySem.W.Frag):Sp:=bP (fun (x:List Int×List Nat) vs H=>∃v u,vs=[v,u]∧rLI K H v x.1∧rTI K H u (vw x.2)∧(∀k∈x.2,1≤k)∧x.1.length≤100000) (fun x r H=>cf (b0 K (rTI K)) H r (BM.cB x.2 x.1))
theorem Kf {f:Addr} {fd:FuncData} (T:Tx P K mg base ad) (F:Fun K "cut" "cut" FT f fd):FnOk P w K mg base CX0 40 f fd ["numbers","lengths"] (yH K):=by
 refine bb (F.ok sc_cut (fun vs H Q E h=>?_) (fun cdv A outer s H vs Q E hr h=>?_))
 ·obtain⟨x,⟨_,_,rfl,_⟩,_⟩:=h; rfl
 ·obtain⟨⟨ns,lens⟩,⟨v,u,rfl,⟨a,rfl,ha⟩,⟨tl,rfl,htl⟩,hpos,hn⟩,k⟩:=h
  have hn:ns.length≤100000:=hn
  have ha:SqL K H a (ns.map V.int):=ha
  have htl:SqT K H tl ((vw lens).map V.int):=htl
  have hpos:∀k∈lens,1≤k:=hpos
  have htlen:((vw lens).map V.int).length=lens.length:=by unfold vw; rw [List.length_map,List.length_map]
  refine⟨_,(ag (aF (i:=2) sc_cut.nd rfl (Or.inl rfl) (aN ah))
   (ag (aF (i:=3) sc_cut.nd rfl (Or.inl rfl) am)
   (ag (iV PassesOwn.never (aE r8 (pv 3) (ba (iX (K:=K) rfl) rfl T.du PySem.boot_len (aa (pv 0) ah)) (aK _))
    (ag (aF (i:=4) sc_cut.nd rfl (Or.inl rfl) (aA aQ (pv 0) (pv 3) (fun _ _=>rfl)))
    (ag (aS (PW.pt (ko (aE r8 (pv 4) am (aK _)) (gR (aE za (pv 4) (ba (iX (K:=K) rfl) rfl T.du PySem.boot_len (aa (pv 1) ah)) (aK _))))) (aj (ay bM)) aC)
    (ag (aF (i:=5) sc_cut.nd rfl (Or.inl rfl) (aR cu (pv 3) (aA aG (pv 1) (pv 4) (fun _ _=>rfl))))
    (ag (aS (aE vm (pv 5) (ba (iX (K:=K) rfl) rfl T.du PySem.boot_len (aa (pv 0) ah)) (aK _)) (aj (ay bM)) aC)
    (ag (bX (d9 PySem.F.plainAttrs_list PySem.F.slot_list_append PySem.F.type_list_append b9 (pv 2) (aa (oO uM rfl T.qT Ck (aa (nu wm (pv 0) (jl (pv 3)) (jl (pv 5))) ah)) ah)))
    (aj (aF (i:=3) sc_cut.nd rfl (Or.inl rfl) (pv 5)))))))))
   (aj (ay (pv 2)))))),?_⟩
  refine⟨Nat.zero_le _,fun l hl'=>?_⟩
  have nl:H l=none:=hl'
  dsimp only [DY,yA,nP,tC]
  refine j7 (fun σ H'=>∃(p:Nat) (v4 v5:Option V) (vs:List V) (cs:List (List Int)),σ=[some (.ref a),some (.ref tl),some (.ref l),some (.int p),v4,v5]∧Same H H'∧H' l=some (.lst vs)∧Paired (rTI K H') vs cs∧p≤ns.length∧cs.length≤p∧BM.cB lens ns=(BM.cB lens (ns.drop p)).map fun c=>cs++c) (fun σ _=>match σ with | [_,_,_,some (.int p),_,_]=>ns.length - p.toNat | _=>0)
   ⟨0,none,none,[],[],rfl,Same.new nl,af,.nil,Nat.zero_le _,Nat.le_refl _,by rw [List.drop_zero]; cases BM.cB lens ns <;> rfl⟩ ?_ (fun σ H Q Q' h ⟨v,e,v2,e2,a,b,c,d,i,j,h1,h2,z,h3,q⟩=>⟨v,e,v2,e2,a,b,c,d,i,j,h1,h2,z,h3,h _ _ q⟩)
  rintro σ H' ⟨p,v4,v5,vs,cs,rfl,hs,hv,hp,hle,hcl,hraw⟩
  have ha':=hs.seq ha
  have htl':=hs.tup htl
  refine⟨_,rfl,_,rfl,a,_,rfl,.inl ha',_,_,rfl,rfl,_,rfl,dH (fun h=>?_) fun h=>?_⟩
  ·have hlt:p < ns.length:=by rw [List.length_map] at h; omega
   obtain⟨op,hop⟩:∃op,ns[p]?= some op:=⟨_,List.getElem?_eq_getElem hlt⟩
   have hdrop:ns.drop p=op::ns.drop (p+1):=by
    obtain⟨b1,b2⟩:=List.getElem?_eq_some_iff.mp hop
    rw [List.drop_eq_getElem_cons b1,b2]
   refine⟨_,rfl,_,rfl,a,_,_,_,rfl,rfl,ha',bW rfl (g5 hop),?_⟩
   have hrc:=BM.jD lens op (ns.drop (p+1))
   have fail:(op < 0∨(lens.length:Int)≤op)→BM.cB lens ns=none:=fun z=>by rw [hraw,hdrop,hrc,if_pos z]; rfl
   refine⟨_,rfl,_,_,rfl,rfl,_,rfl,dH (fun h1=>?_) fun h1=>?_⟩
   ·refine gy (k _ _ hs ?_)
    show cf _ _ .non (BM.cB lens ns)
    rw [fail (.inl h1)]
    rfl
   refine⟨_,rfl,_,rfl,tl,_,rfl,.inr htl',_,_,rfl,rfl,_,rfl,dH (fun h2=>?_) fun h2=>?_⟩
   ·refine k _ _ hs ?_
    show cf _ _ .non (BM.cB lens ns)
    rw [fail (.inr (by rw [htlen] at h2; exact h2))]
    rfl
   rw [htlen] at h2
   have hz:¬(op < 0∨(lens.length:Int)≤op):=by omega
   rw [if_neg hz] at hrc
   obtain⟨kk,hkk⟩:∃kk,lens[op.toNat]?= some kk:=⟨_,List.getElem?_eq_getElem (by omega)⟩
   have hkd:lens.getD op.toNat 0=kk:=by rw [List.getD_eq_getElem?_getD,hkk]; rfl
   have hk1:1≤kk:=hpos kk (List.mem_of_getElem? hkk)
   have hlen:((vw lens).map V.int)[op.toNat]?= some (.int (kk:Int)):=by unfold vw; rw [List.getElem?_map,List.getElem?_map,hkk]; rfl
   rw [hkd] at hrc
   refine⟨_,rfl,_,rfl,_,rfl,tl,_,op,_,rfl,rfl,htl',bW (j:=op.toNat) (by omega) hlen,_,_,rfl,rfl,?_⟩
   refine⟨_,rfl,_,rfl,a,_,rfl,.inl ha',_,_,rfl,rfl,_,rfl,dH (fun h3=>?_) fun h3=>?_⟩
   ·refine k _ _ hs ?_
    show cf _ _ .non (BM.cB lens ns)
    rw [List.length_map] at h3
    rw [hraw,hdrop,hrc,if_pos (by rw [List.length_drop]; omega)]
    rfl
   rw [List.length_map] at h3
   rw [if_neg (by rw [List.length_drop]; omega)] at hrc
   refine⟨_,rfl,.inl ⟨rfl,_,SqL.of hv⟩,_,rfl,_,rfl,_,rfl,_,rfl,_,rfl,a,_,rfl,ha',fun q hq=>?_⟩
   have ecut:lV (ns.map V.int) (some (p:Int)) (some ((p:Int)+(kk:Int)))=(op::(ns.drop (p+1)).take (kk - 1)).map V.int:=by
    have e:(p:Int)+(kk:Int)=((p+kk:Nat):Int):=by omega
    rw [e,xx (by rw [List.length_map]; omega) (by omega),←List.map_drop,←List.map_take,hdrop,show p+kk - p=(kk - 1)+1 by omega,List.take_succ_cons]
   have hq:H' q=none:=hq
   have hlq:l≠q:=az hv hq
   refine⟨q,_,rfl,.inl ⟨SqL.of af,fun t ht=>?_⟩⟩
   have ht:upd H' q (.lst (lV (ns.map V.int) (some (p:Int)) (some ((p:Int)+(kk:Int))))) t=none:=ht
   have htq:t≠q:=by
    intro z
    rw [z,af] at ht
    cases ht
   have ht':H' t=none:=by rw [aq htq] at ht; exact ht
   have hlt':l≠t:=az hv ht'
   have s2:Same H' (upd (upd H' q (.lst (lV (ns.map V.int) (some (p:Int)) (some ((p:Int)+(kk:Int)))))) t (.tup (lV (ns.map V.int) (some (p:Int)) (some ((p:Int)+(kk:Int)))))):=(Same.new hq).trans (Same.new ht)
   have hline:rTI K (upd (upd H' q (.lst (lV (ns.map V.int) (some (p:Int)) (some ((p:Int)+(kk:Int)))))) t (.tup (lV (ns.map V.int) (some (p:Int)) (some ((p:Int)+(kk:Int)))))) (.ref t) (op::(ns.drop (p+1)).take (kk - 1)):=⟨t,rfl,SqT.of (by rw [af,ecut])⟩
   have hv2:=s2 l _ hv
   refine⟨l,_,_,rfl,rfl,hv2,(by rw [aJ hp]; exact bc (by omega)),?_⟩
   refine⟨_,rfl,⟨p+kk,_,_,_,cs++[op::(ns.drop (p+1)).take (kk - 1)],rfl,(hs.trans s2).upd1 nl,af,?_,by omega,?_,?_⟩,?_⟩
   ·exact bz (bh (fun v x r=>ck (mTI _ _ _ _ s2 r) hv2) hp) (ck hline hv2)
   ·rw [List.length_append]
    simp only [List.length_cons,List.length_nil]
    omega
   ·have ed:(ns.drop (p+1)).drop (kk - 1)=ns.drop (p+kk):=by rw [List.drop_drop,show p+1+(kk - 1)=p+kk by omega]
    rw [hraw,hdrop,hrc,ed]
    cases BM.cB lens (ns.drop (p+kk)) with
    | none=>rfl
    | some c=>simp
   ·show ns.length - ((p:Int)+(kk:Int)).toNat < ns.length - (p:Int).toNat
    omega
  ·have e:p=ns.length:=by rw [List.length_map] at h; omega
   refine⟨_,rfl,k _ _ hs ?_⟩
   show cf _ _ (.ref l) (BM.cB lens ns)
   rw [hraw,e,List.drop_length,BM.i9]
   refine⟨(fun z=>by cases z),l,vs,rfl,SqL.of hv,?_⟩
   show Paired (rTI K H') vs (cs++[])
   rw [List.append_nil]
   exact hp
theorem KL {α:Type} {f:α→Bool} (l:List α):(l.map f).all id=l.all f:=by rw [List.all_map]; rfl
theorem KK {α:Type} {f:α→Bool} (l:List α):(l.map f).any id=l.any f:=by rw [List.any_map]; rfl
theorem lx {α β:Type} {l:List α} {f:α→β} {i:Nat} {x:α} (h:l[i]?= some x):(l.take (i+1)).map f=(l.take i).map f++[f x]:=by
 obtain⟨b1,b2⟩:=List.getElem?_eq_some_iff.mp h
 rw [List.take_succ_eq_append_getElem b1,List.map_append,b2]
 rfl
theorem Gq:∀k∈BM.LENS,1≤k:=by decide
theorem Ff:∀k∈BM.ALENS,1≤k:=by decide
noncomputable abbrev gv:Stmt:=top 45
theorem sc_read_lines:aD ["numbers","lines","line"] ["numbers"] (aw gv):=⟨rfl,rfl,rfl,by decide +kernel,rfl,by decide +kernel,by decide +kernel⟩
noncomputable def wd (K:PySem.W.Frag):Sp:=bP (fun (x:List Int) vs H=>∃v,vs=[v]∧rLI K H v x∧x.length≤1000) (fun x r H=>cf (b0 K (rTI K)) H r (BM.bI x))
theorem uh {f:Addr} {fd:FuncData} (T:Tx P K mg base ad) (F:Fun K "read_lines" "read_lines" gv f fd) (iD:Fb P w K mg base 40 "well_formed" ["line"] (Ld K)) (vA:Fb P w K mg base 40 "cut" ["numbers","lengths"] (yH K)):FnOk P w K mg base CX0 41 f fd ["numbers"] (wd K):=by
 refine bb (F.ok sc_read_lines (fun vs H Q E h=>?_) (fun cdv A outer s H vs Q E hr h=>?_))
 ·obtain⟨x,⟨_,rfl,_⟩,_⟩:=h; rfl
 ·obtain⟨ns,⟨v,rfl,⟨a,rfl,ha⟩,hn⟩,k⟩:=h
  have hn:ns.length≤1000:=hn
  refine⟨_,(ag (aF (i:=1) sc_read_lines.nd rfl (Or.inl rfl) (aP vA (hr.mono (by decide)) rfl (aa (pv 0) (aa (kr rfl T.lN) ah))))
   (ag (aS (PW.pt (ko (aE eM (pv 1) bM (aK _)) (gR (cq (aW (ba (G1 rfl) rfl T.Af z8 (aa (eK (own:=[("line",2)]) rfl sc_read_lines.nd (bQ (pv 1)) (bH (N:=["numbers","lines","line"]) (sc:=aw gv) (by decide +kernel)) (fun _ _ _ _ _=>(a7 (i:=2) sc_read_lines.nd rfl (Or.inl rfl) (hf:=Or.inr rfl))) (fun _ _ _ _ _=>cn) (fun _ _ _ _ _=>(aP iD (hr.mono (by decide)) rfl (aa (pv 2) ah)))) ah)) (fun _=>rfl)))))) (aj (ay bM)) aC)
   (aj (ay (pv 1))))),?_⟩
  refine⟨_,rfl,?_⟩
  refine(show yH K [.ref a,.ref ad.cS] H _ E0 from bZ (ns,BM.LENS) ⟨_,_,rfl,⟨a,rfl,ha⟩,⟨ad.cS,rfl,T.ly.sq _⟩,Gq,(by show ns.length≤100000; omega)⟩ fun H2 r s2 h2=>?_)
  have h2:cf (b0 K (rTI K)) H2 r (BM.cB BM.LENS ns):=h2
  have hraw:=BM.rS ns.length ns (Nat.le_refl _)
  cases hc:BM.cB BM.LENS ns with
  | none=>
   rw [hc] at h2 hraw
   have h2:r=.non:=h2
   subst h2
   refine⟨_,rfl,rfl,_,rfl,cp rfl (gy (k _ _ s2 ?_))⟩
   show cf _ _ .non (BM.bI ns)
   rw [hraw]
   rfl
  | some c=>
   rw [hc] at h2 hraw
   obtain⟨hne,al,us,rfl,hal,hp⟩:=h2
   have hp:Paired (rTI K H2) us c:=hp
   obtain⟨hpc,hcl⟩:=BM.kT BM.LENS ns.length ns c (Nat.le_refl _) hc
   refine⟨_,rfl,rfl,_,rfl,aM hne ?_⟩
   refine⟨_,rfl,al,rfl,⟨_,hal⟩,fun D hD=>?_⟩
   have hD:H2 D=none:=hD
   refine dD (K:=K) (a:=al) (xs:=us) (fun i H3=>Same H2 H3∧H3 D=some (.lst (((c.take i).map BM.wfl).map V.bl))) ⟨Same.new hD,af⟩ (fun i H3 _ ⟨s1,_⟩=>s1.seq hal) ?_ ?_
   ·rintro i x H3 hx ⟨s1,hv⟩
    obtain⟨l,hl,p,rfl,hp'⟩:=bY hp hx
    obtain⟨op,rr,rfl,o0,o1,o2⟩:=hpc l (List.mem_of_getElem? hl)
    have o1:op < 7:=o1
    rw [BM.De o0 o1] at o2
    have o3:=BM.lJ op
    refine⟨rfl,_,rfl,.ref p,op,rr,rfl,⟨p,rfl,s1.tup hp'⟩,o0,by omega,(by rw [List.length_cons]; omega),_,hv,?_,s1.upd1 hD,?_⟩
    ·have:=(List.getElem?_eq_some_iff.mp hl).1
     rw [List.length_map,List.length_map,List.length_take]; exact bc (by omega)
    ·rw [af,lx hl,List.map_append]
     rfl
   ·rintro H3 ⟨s1,hv⟩
    rw [aJ hp,List.take_length] at hv
    refine⟨D,_,rfl,SqL.of hv,_,rfl,?_⟩
    rw [KL]
    have hraw:BM.bI ns=if c.all BM.wfl=true then some c else none:=hraw
    refine ML (fun h=>?_) fun h=>?_
    ·have h:c.all BM.wfl=false:=by simpa using h
     refine k _ _ (s2.trans s1) ?_
     show cf _ _ .non (BM.bI ns)
     rw [hraw,h]
     rfl
    ·have h:c.all BM.wfl=true:=by simpa using h
     refine⟨_,rfl,k _ _ (s2.trans s1) ?_⟩
     show cf _ _ (.ref al) (BM.bI ns)
     rw [hraw,h,if_pos rfl]
     exact⟨hne,al,us,rfl,s1.seq hal,aT mTI s1 hp⟩
end
end B
namespace B
open PySem PySem.Spec PyProof.Rows L2
section
variable {P:Program} {w:World} {K:PySem.W.Frag} {mg:Str→Option Value} {base:Heap} {ad:Ad}
noncomputable abbrev jg:Stmt:=top 47
theorem sc_uses_known:aD ["lines","inputs","number","line","limit"] ["lines","inputs"] (aw jg):=⟨rfl,rfl,rfl,by decide +kernel,rfl,by decide +kernel,by decide +kernel⟩
noncomputable def wj (K:PySem.W.Frag):Sp:=bP (fun (x:List (List Int)×Nat) vs H=>∃v,vs=[v,.int (x.2:Int)]∧b0 K (rTI K) H v x.1∧∀l∈x.1,BM.Wf l) (fun x r _=>∃b,r=.bl b∧(b=true↔BM.Known x.2 0 x.1))
theorem ue {f:Addr} {fd:FuncData} (T:Tx P K mg base ad) (F:Fun K "uses_known" "uses_known" jg f fd):FnOk P w K mg base CX0 40 f fd ["lines","inputs"] (wj K):=by
 refine bb (F.ok sc_uses_known (fun vs H Q E h=>?_) (fun cdv A outer s H vs Q E hr h=>?_))
 ·obtain⟨x,⟨_,rfl,_⟩,_⟩:=h; rfl
 ·obtain⟨⟨cs,inp⟩,⟨v,rfl,⟨a,us,rfl,ha,hp⟩,hw⟩,k⟩:=h
  have hp:Paired (rTI K H) us cs:=hp
  have hw:∀l∈cs,BM.Wf l:=hw
  refine⟨_,(ag (cV PassesOwn.never rfl (wA rfl T.eA (aa (pv 0) ah)) (rX rfl (cP (a7 (i:=2) sc_uses_known.nd rfl (Or.inl rfl) (hf:=Or.inl rfl)) (cP (a7 (i:=3) sc_uses_known.nd rfl (Or.inl rfl) (hf:=Or.inl rfl)) lE)))
    (ag (aS (aE bN (aA aG (pv 3) am (fun _ _=>rfl)) (aO rfl T.d6) (aK _)) (aj pP) aC)
    (ag (aF (i:=4) sc_uses_known.nd rfl (Or.inl rfl) (iW (aE bN (aA aG (pv 3) am (fun _ _=>rfl)) (aO rfl T.lO) (aK _)) (pv 1) (pv 2)))
    (aj (aS (aE za (ba (IW rfl) rfl T.Ae z7 (aa (nu JW (pv 3) (jl am) HS) ah)) (pv 4) (aK _)) (aj (ay Jo)) aC)))))
   (aj (ay Jo))),?_⟩
  refine⟨_,rfl,a,us,rfl,ha,?_⟩
  refine sV (K:=K) (a:=a) (xs:=us) (fun i σ H'=>∃v2 v3 v4:Option V,σ=[some (.ref a),some (.int inp),v2,v3,v4]∧Same H H'∧∀(j:Nat) (l:List Int),j < i→cs[j]?= some l→BM.fZ inp (0+j) l)
   ⟨none,none,none,rfl,Same.refl _,fun j l z=>absurd z (Nat.not_lt_zero _)⟩ (fun i σ H' _ ⟨_,_,_,_,hs,_⟩=>hs.seq ha) ?_ ?_
  ·rintro i x σ H' t hi ⟨v2,v3,v4,rfl,hs,hk⟩ ht
   obtain⟨l,hl,p,rfl,hp'⟩:=bY hp hi
   have s1:Same H (upd H' t (.tup [.int (i:Nat),.ref p])):=hs.trans (Same.new ht)
   have hq:=s1.tup hp'
   have grow:BM.fZ inp i l→∀(j:Nat) (l:List Int),j < i+1→cs[j]?= some l→BM.fZ inp (0+j) l:=fun z j l' hj e=>by
    by_cases h:j < i
    ·exact hk j l' h e
    ·have ej:j=i:=by omega
     subst ej
     rw [hl] at e
     cases e
     rw [Nat.zero_add]
     exact z
   have fail:¬BM.fZ inp i l→(false=true↔BM.Known inp 0 cs):=fun z=>⟨(fun q=>by cases q),fun q=>absurd (by have:=BM.Known.at q hl; rw [Nat.zero_add] at this; exact this) z⟩
   refine⟨t,_,rfl,SqT.of af,rfl,_,_,rfl,_,_,rfl,rfl,?_⟩
   cases hw l (List.mem_of_getElem? hl) with
   | input x hx=>
    refine⟨_,rfl,p,_,0,_,rfl,rfl,hq,rfl,rfl,_,rfl,aM (by decide) ?_⟩
    refine⟨_,rfl,p,_,0,_,rfl,rfl,hq,rfl,rfl,_,rfl,cp rfl ⟨_,rfl,?_⟩⟩
    refine⟨_,rfl,1,rfl,p,_,rfl,hq,(fun z=>absurd z.1 (by show¬((1:Nat)=0); decide)),fun q hq'=>⟨q,[x],rfl,(show SqT K _ q ([x].map V.int) from SqT.of af),Nat.succ_pos _,fun m hm hmx=>?_⟩⟩
    have hq':upd H' t (.tup [.int (i:Nat),.ref p]) q=none:=hq'
    refine⟨_,rfl,_,_,rfl,rfl,_,rfl,dH (fun h=>?_) fun h=>?_⟩
    ·refine k _ _ (s1.trans (Same.new hq')) ⟨false,rfl,fail ?_⟩
     simp at hm; show¬(x < (inp:Int)); omega
    ·refine⟨_,_,_,rfl,s1.trans (Same.new hq'),grow ?_⟩
     simp at hm; show x < (inp:Int); omega
   | num n d hd=>
    refine⟨_,rfl,p,_,0,_,rfl,rfl,hq,rfl,rfl,_,rfl,cp rfl ?_⟩
    exact⟨_,_,_,rfl,s1,grow trivial⟩
   | add x y hx hy=>
    refine⟨_,rfl,p,_,0,_,rfl,rfl,hq,rfl,rfl,_,rfl,aM (by decide) ?_⟩
    refine⟨_,rfl,p,_,0,_,rfl,rfl,hq,rfl,rfl,_,rfl,aM (by decide) ⟨_,rfl,?_⟩⟩
    refine⟨_,rfl,1,rfl,p,_,rfl,hq,(fun z=>absurd z.1 (by show¬((1:Nat)=0); decide)),fun q hq'=>⟨q,[x,y],rfl,(show SqT K _ q ([x,y].map V.int) from SqT.of af),Nat.succ_pos _,fun m hm hmx=>?_⟩⟩
    have hq':upd H' t (.tup [.int (i:Nat),.ref p]) q=none:=hq'
    refine⟨_,rfl,_,_,rfl,rfl,_,rfl,dH (fun h=>?_) fun h=>?_⟩
    ·refine k _ _ (s1.trans (Same.new hq')) ⟨false,rfl,fail ?_⟩
     have a1:=hmx x (by simp); have a2:=hmx y (by simp); simp at hm; show¬(x < (i:Int)∧y < (i:Int)); omega
    ·refine⟨_,_,_,rfl,s1.trans (Same.new hq'),grow ?_⟩
     have a1:=hmx x (by simp); have a2:=hmx y (by simp); simp at hm; show x < (i:Int)∧y < (i:Int); omega
   | sub x y hx hy=>
    refine⟨_,rfl,p,_,0,_,rfl,rfl,hq,rfl,rfl,_,rfl,aM (by decide) ?_⟩
    refine⟨_,rfl,p,_,0,_,rfl,rfl,hq,rfl,rfl,_,rfl,aM (by decide) ⟨_,rfl,?_⟩⟩
    refine⟨_,rfl,1,rfl,p,_,rfl,hq,(fun z=>absurd z.1 (by show¬((1:Nat)=0); decide)),fun q hq'=>⟨q,[x,y],rfl,(show SqT K _ q ([x,y].map V.int) from SqT.of af),Nat.succ_pos _,fun m hm hmx=>?_⟩⟩
    have hq':upd H' t (.tup [.int (i:Nat),.ref p]) q=none:=hq'
    refine⟨_,rfl,_,_,rfl,rfl,_,rfl,dH (fun h=>?_) fun h=>?_⟩
    ·refine k _ _ (s1.trans (Same.new hq')) ⟨false,rfl,fail ?_⟩
     have a1:=hmx x (by simp); have a2:=hmx y (by simp); simp at hm; show¬(x < (i:Int)∧y < (i:Int)); omega
    ·refine⟨_,_,_,rfl,s1.trans (Same.new hq'),grow ?_⟩
     have a1:=hmx x (by simp); have a2:=hmx y (by simp); simp at hm; show x < (i:Int)∧y < (i:Int); omega
   | mul x y hx hy=>
    refine⟨_,rfl,p,_,0,_,rfl,rfl,hq,rfl,rfl,_,rfl,aM (by decide) ?_⟩
    refine⟨_,rfl,p,_,0,_,rfl,rfl,hq,rfl,rfl,_,rfl,aM (by decide) ⟨_,rfl,?_⟩⟩
    refine⟨_,rfl,1,rfl,p,_,rfl,hq,(fun z=>absurd z.1 (by show¬((1:Nat)=0); decide)),fun q hq'=>⟨q,[x,y],rfl,(show SqT K _ q ([x,y].map V.int) from SqT.of af),Nat.succ_pos _,fun m hm hmx=>?_⟩⟩
    have hq':upd H' t (.tup [.int (i:Nat),.ref p]) q=none:=hq'
    refine⟨_,rfl,_,_,rfl,rfl,_,rfl,dH (fun h=>?_) fun h=>?_⟩
    ·refine k _ _ (s1.trans (Same.new hq')) ⟨false,rfl,fail ?_⟩
     have a1:=hmx x (by simp); have a2:=hmx y (by simp); simp at hm; show¬(x < (i:Int)∧y < (i:Int)); omega
    ·refine⟨_,_,_,rfl,s1.trans (Same.new hq'),grow ?_⟩
     have a1:=hmx x (by simp); have a2:=hmx y (by simp); simp at hm; show x < (i:Int)∧y < (i:Int); omega
   | div x y hx hy=>
    refine⟨_,rfl,p,_,0,_,rfl,rfl,hq,rfl,rfl,_,rfl,aM (by decide) ?_⟩
    refine⟨_,rfl,p,_,0,_,rfl,rfl,hq,rfl,rfl,_,rfl,aM (by decide) ⟨_,rfl,?_⟩⟩
    refine⟨_,rfl,1,rfl,p,_,rfl,hq,(fun z=>absurd z.1 (by show¬((1:Nat)=0); decide)),fun q hq'=>⟨q,[x,y],rfl,(show SqT K _ q ([x,y].map V.int) from SqT.of af),Nat.succ_pos _,fun m hm hmx=>?_⟩⟩
    have hq':upd H' t (.tup [.int (i:Nat),.ref p]) q=none:=hq'
    refine⟨_,rfl,_,_,rfl,rfl,_,rfl,dH (fun h=>?_) fun h=>?_⟩
    ·refine k _ _ (s1.trans (Same.new hq')) ⟨false,rfl,fail ?_⟩
     have a1:=hmx x (by simp); have a2:=hmx y (by simp); simp at hm; show¬(x < (i:Int)∧y < (i:Int)); omega
    ·refine⟨_,_,_,rfl,s1.trans (Same.new hq'),grow ?_⟩
     have a1:=hmx x (by simp); have a2:=hmx y (by simp); simp at hm; show x < (i:Int)∧y < (i:Int); omega
   | neg x hx=>
    refine⟨_,rfl,p,_,0,_,rfl,rfl,hq,rfl,rfl,_,rfl,aM (by decide) ?_⟩
    refine⟨_,rfl,p,_,0,_,rfl,rfl,hq,rfl,rfl,_,rfl,aM (by decide) ⟨_,rfl,?_⟩⟩
    refine⟨_,rfl,1,rfl,p,_,rfl,hq,(fun z=>absurd z.1 (by show¬((1:Nat)=0); decide)),fun q hq'=>⟨q,[x],rfl,(show SqT K _ q ([x].map V.int) from SqT.of af),Nat.succ_pos _,fun m hm hmx=>?_⟩⟩
    have hq':upd H' t (.tup [.int (i:Nat),.ref p]) q=none:=hq'
    refine⟨_,rfl,_,_,rfl,rfl,_,rfl,dH (fun h=>?_) fun h=>?_⟩
    ·refine k _ _ (s1.trans (Same.new hq')) ⟨false,rfl,fail ?_⟩
     simp at hm; show¬(x < (i:Int)); omega
    ·refine⟨_,_,_,rfl,s1.trans (Same.new hq'),grow ?_⟩
     simp at hm; show x < (i:Int); omega
  ·rintro σ H' ⟨v2,v3,v4,rfl,hs,hk⟩
   refine k _ _ hs ⟨true,rfl,fun _=>?_,fun _=>rfl⟩
   exact BM.Known.of fun j l e=>hk j l (by rw [aJ hp]; exact(List.getElem?_eq_some_iff.mp e).1) e
noncomputable abbrev mq:Stmt:=top 49
theorem sc_work_out:aD ["line","values","inputs","kind","first","second"] ["line","values","inputs"] (aw mq):=⟨rfl,rfl,rfl,by decide +kernel,rfl,by decide +kernel,by decide +kernel⟩
noncomputable def Sms (l:List Rat):Prop:=∀q∈l,BM.wt q≤200
theorem Sms.get {l:List Rat} (h:Sms l) {i:Nat} {q:Rat} (e:l[i]?= some q):Sm q:=Nat.le_trans (h q (List.mem_of_getElem? e)) (by decide)
noncomputable def AS (K:PySem.W.Frag):Sp:=bP (fun (x:List Int×List Rat×List Rat) vs H=>∃v1 v2 v3,vs=[v1,v2,v3]∧rTI K H v1 x.1∧b0 K (rFr K) H v2 x.2.1∧b0 K (rFr K) H v3 x.2.2∧BM.Wf x.1∧BM.fZ x.2.2.length x.2.1.length x.1∧Sms x.2.1)
 (fun x r H=>cf (rFr K) H r (BM.Rv x.2.2 x.2.1 (BM.aU x.1)))
theorem w9 {l:List Rat} {i:Nat} {q:Rat} (e:l[i]?= some q):l.getD i 0=q:=by rw [List.getD_eq_getElem?_getD,e]; rfl
theorem gQ {H:Hp} {v:V} {q:Rat} (h:rFr K H v q):cf (rFr K) H v (some q):=by
 obtain⟨a,rfl,h⟩:=h
 exact⟨(fun z=>by cases z),a,rfl,h⟩
theorem zb {f:Addr} {fd:FuncData} (T:Tx P K mg base ad) (F:Fun K "work_out" "work_out" mq f fd) (bR:Fb P w K mg base 41 "lowest" ["numerator","denominator"] (iT K)) (fG:Fb P w K mg base 40 "opposite" ["a"] (yD K))
  (Gz:Fb P w K mg base 42 "add" ["a","b"] (kb K (fun a b=>a+b))) (mP:Fb P w K mg base 42 "subtract" ["a","b"] (kb K (fun a b=>a - b))) (fH:Fb P w K mg base 42 "multiply" ["a","b"] (kb K (fun a b=>a*b))) (i0:Fb P w K mg base 42 "divide" ["a","b"] (yG K)):
  FnOk P w K mg base CX0 43 f fd ["line","values","inputs"] (AS K):=by
 refine bb (F.ok sc_work_out (fun vs H Q E h=>?_) (fun cdv A outer s H vs Q E hr h=>?_))
 ·obtain⟨x,⟨_,_,_,rfl,_⟩,_⟩:=h; rfl
 ·obtain⟨⟨l,vals,ins⟩,⟨v1,v2,v3,rfl,⟨p,rfl,hq⟩,⟨av,us,rfl,hav,hpv⟩,⟨ai,ws,rfl,hai,hpi⟩,hw,hk,hsm⟩,k⟩:=h
  have hsm:Sms vals:=hsm
  have hk:BM.fZ ins.length vals.length l:=hk
  have hpv:Paired (rFr K H) us vals:=hpv
  have hpi:Paired (rFr K H) ws ins:=hpi
  have at_v:∀i:Int,0≤i→i < vals.length→∃v q,atI us i=some v∧rFr K H v q∧vals.getD i.toNat 0=q∧Sm q:=fun i h0 h1=>by
   obtain⟨q,hq⟩:∃q,vals[i.toNat]?= some q:=⟨_,List.getElem?_eq_getElem (by omega)⟩
   obtain⟨v,e,r⟩:=bt hpv hq
   exact⟨v,q,bW (j:=i.toNat) (by omega) e,r,w9 hq,hsm.get hq⟩
  refine⟨_,(ag (aF (i:=3) sc_work_out.nd rfl (Or.inl rfl) (aA aG (pv 0) am (fun _ _=>rfl)))
   (ag (aS (aE bN (pv 3) (aO rfl T.lO) (aK _)) (aj (ay (aA aQ (pv 2) (aA aG (pv 0) am (fun _ _=>rfl)) (fun _ _=>rfl)))) aC)
   (ag (aS (aE bN (pv 3) (aO rfl T.d6) (aK _)) (aj (ay (aP bR (hr.mono (by decide)) rfl (aa (aA aG (pv 0) am (fun _ _=>rfl)) (aa (aA aG (pv 0) am (fun _ _=>rfl)) ah))))) aC)
   (ag (aF (i:=4) sc_work_out.nd rfl (Or.inl rfl) (aA aQ (pv 1) (aA aG (pv 0) am (fun _ _=>rfl)) (fun _ _=>rfl)))
   (ag (aS (aE bN (pv 3) (aO rfl T.g7) (aK _)) (aj (ay (aP fG (hr.mono (by decide)) rfl (aa (pv 4) ah)))) aC)
   (ag (aF (i:=5) sc_work_out.nd rfl (Or.inl rfl) (aA aQ (pv 1) (aA aG (pv 0) am (fun _ _=>rfl)) (fun _ _=>rfl)))
   (ag (aS (aE bN (pv 3) (aO rfl T.zE) (aK _)) (aj (ay (aP Gz (hr.mono (by decide)) rfl (aa (pv 4) (aa (pv 5) ah))))) aC)
   (ag (aS (aE bN (pv 3) (aO rfl T.eY) (aK _)) (aj (ay (aP mP (hr.mono (by decide)) rfl (aa (pv 4) (aa (pv 5) ah))))) aC)
   (ag (aS (aE bN (pv 3) (aO rfl T.i5) (aK _)) (aj (ay (aP fH (hr.mono (by decide)) rfl (aa (pv 4) (aa (pv 5) ah))))) aC)
   (ag (aS (aE bN (aA aG (pv 5) am (fun _ _=>rfl)) am (aK _)) (aj (ay bM)) aC)
   (aj (ay (aP i0 (hr.mono (by decide)) rfl (aa (pv 4) (aa (pv 5) ah))))))))))))))),?_⟩
  cases hw with
  | input x hx=>
   have hk:x < ins.length:=hk
   obtain⟨q,hqx⟩:∃q,ins[x.toNat]?= some q:=⟨_,List.getElem?_eq_getElem (by omega)⟩
   obtain⟨v,e,r⟩:=bt hpi hqx
   refine⟨_,rfl,p,_,0,_,rfl,rfl,hq,rfl,?_⟩
   refine⟨_,rfl,rfl,_,rfl,cp rfl ?_⟩
   refine⟨_,rfl,_,rfl,p,_,1,_,rfl,rfl,hq,rfl,ai,_,_,_,rfl,rfl,hai,bW (j:=x.toNat) (by omega) e,k _ _ (Same.refl _) ?_⟩
   show cf _ H v (some (ins.getD x.toNat 0))
   rw [w9 hqx]
   exact gQ r
  | num n d hd=>
   refine⟨_,rfl,p,_,0,_,rfl,rfl,hq,rfl,?_⟩
   refine⟨_,rfl,rfl,_,rfl,aM (by decide) ?_⟩
   refine⟨_,rfl,rfl,_,rfl,cp rfl ?_⟩
   refine⟨_,rfl,p,_,1,_,rfl,rfl,hq,rfl,_,rfl,p,_,2,_,rfl,rfl,hq,rfl,show iT K [_,_] H Q E0 from bZ (n,d) ⟨rfl,(by show d≠0; omega)⟩ fun H' r s' h=>k H' r s' ?_⟩
   have h:rFr K H' r (Rat.divInt n d):=h
   show cf _ H' r (some (mkRat (Vagraa.frac n d.toNat).num (Vagraa.frac n d.toNat).den))
   rw [BM.i6]
   show cf _ H' r (some (mkRat (mkRat n d.toNat).num (mkRat n d.toNat).den))
   rw [BM.md,←tm hd]
   exact gQ h
  | add x y hx hy=>
   have hk:x < vals.length∧y < vals.length:=hk
   obtain⟨v,q,ev,rv,eq,sq⟩:=at_v x hx hk.1
   obtain⟨u,z,eu,ru,ez,sz⟩:=at_v y hy hk.2
   refine⟨_,rfl,p,_,0,_,rfl,rfl,hq,rfl,?_⟩
   refine⟨_,rfl,rfl,_,rfl,aM (by decide) ?_⟩
   refine⟨_,rfl,rfl,_,rfl,aM (by decide) ?_⟩
   refine⟨_,rfl,_,rfl,p,_,1,_,rfl,rfl,hq,rfl,av,_,_,_,rfl,rfl,hav,ev,?_⟩
   refine⟨_,rfl,rfl,_,rfl,aM (by decide) ?_⟩
   refine⟨_,rfl,_,rfl,p,_,2,_,rfl,rfl,hq,rfl,av,_,_,_,rfl,rfl,hav,eu,?_⟩
   refine⟨_,rfl,rfl,_,rfl,cp rfl ?_⟩
   refine⟨_,rfl,_,rfl,show kb K (fun a b=>a+b) [_,_] H Q E0 from bZ (q,z) ⟨_,_,rfl,rv,ru,sq,sz⟩ fun H' r s' h=>k H' r s' ?_⟩
   show cf _ H' r (some (vals.getD x.toNat 0+vals.getD y.toNat 0))
   rw [eq,ez]
   exact gQ h
  | sub x y hx hy=>
   have hk:x < vals.length∧y < vals.length:=hk
   obtain⟨v,q,ev,rv,eq,sq⟩:=at_v x hx hk.1
   obtain⟨u,z,eu,ru,ez,sz⟩:=at_v y hy hk.2
   refine⟨_,rfl,p,_,0,_,rfl,rfl,hq,rfl,?_⟩
   refine⟨_,rfl,rfl,_,rfl,aM (by decide) ?_⟩
   refine⟨_,rfl,rfl,_,rfl,aM (by decide) ?_⟩
   refine⟨_,rfl,_,rfl,p,_,1,_,rfl,rfl,hq,rfl,av,_,_,_,rfl,rfl,hav,ev,?_⟩
   refine⟨_,rfl,rfl,_,rfl,aM (by decide) ?_⟩
   refine⟨_,rfl,_,rfl,p,_,2,_,rfl,rfl,hq,rfl,av,_,_,_,rfl,rfl,hav,eu,?_⟩
   refine⟨_,rfl,rfl,_,rfl,aM (by decide) ?_⟩
   refine⟨_,rfl,rfl,_,rfl,cp rfl ?_⟩
   refine⟨_,rfl,_,rfl,show kb K (fun a b=>a - b) [_,_] H Q E0 from bZ (q,z) ⟨_,_,rfl,rv,ru,sq,sz⟩ fun H' r s' h=>k H' r s' ?_⟩
   show cf _ H' r (some (vals.getD x.toNat 0 - vals.getD y.toNat 0))
   rw [eq,ez]
   exact gQ h
  | mul x y hx hy=>
   have hk:x < vals.length∧y < vals.length:=hk
   obtain⟨v,q,ev,rv,eq,sq⟩:=at_v x hx hk.1
   obtain⟨u,z,eu,ru,ez,sz⟩:=at_v y hy hk.2
   refine⟨_,rfl,p,_,0,_,rfl,rfl,hq,rfl,?_⟩
   refine⟨_,rfl,rfl,_,rfl,aM (by decide) ?_⟩
   refine⟨_,rfl,rfl,_,rfl,aM (by decide) ?_⟩
   refine⟨_,rfl,_,rfl,p,_,1,_,rfl,rfl,hq,rfl,av,_,_,_,rfl,rfl,hav,ev,?_⟩
   refine⟨_,rfl,rfl,_,rfl,aM (by decide) ?_⟩
   refine⟨_,rfl,_,rfl,p,_,2,_,rfl,rfl,hq,rfl,av,_,_,_,rfl,rfl,hav,eu,?_⟩
   refine⟨_,rfl,rfl,_,rfl,aM (by decide) ?_⟩
   refine⟨_,rfl,rfl,_,rfl,aM (by decide) ?_⟩
   refine⟨_,rfl,rfl,_,rfl,cp rfl ?_⟩
   refine⟨_,rfl,_,rfl,show kb K (fun a b=>a*b) [_,_] H Q E0 from bZ (q,z) ⟨_,_,rfl,rv,ru,sq,sz⟩ fun H' r s' h=>k H' r s' ?_⟩
   show cf _ H' r (some (vals.getD x.toNat 0*vals.getD y.toNat 0))
   rw [eq,ez]
   exact gQ h
  | div x y hx hy=>
   have hk:x < vals.length∧y < vals.length:=hk
   obtain⟨v,q,ev,rv,eq,sq⟩:=at_v x hx hk.1
   obtain⟨u,z,eu,ru,ez,sz⟩:=at_v y hy hk.2
   refine⟨_,rfl,p,_,0,_,rfl,rfl,hq,rfl,?_⟩
   refine⟨_,rfl,rfl,_,rfl,aM (by decide) ?_⟩
   refine⟨_,rfl,rfl,_,rfl,aM (by decide) ?_⟩
   refine⟨_,rfl,_,rfl,p,_,1,_,rfl,rfl,hq,rfl,av,_,_,_,rfl,rfl,hav,ev,?_⟩
   refine⟨_,rfl,rfl,_,rfl,aM (by decide) ?_⟩
   refine⟨_,rfl,_,rfl,p,_,2,_,rfl,rfl,hq,rfl,av,_,_,_,rfl,rfl,hav,eu,?_⟩
   refine⟨_,rfl,rfl,_,rfl,aM (by decide) ?_⟩
   refine⟨_,rfl,rfl,_,rfl,aM (by decide) ?_⟩
   refine⟨_,rfl,rfl,_,rfl,aM (by decide) ?_⟩
   have hz0:V.int z.num=V.int 0↔z=0:=⟨fun h=>by injection h with h; exact Rat.num_eq_zero.mp h,fun h=>by rw [h]; rfl⟩
   have ru0:=ru
   obtain⟨pz,rfl,hpz⟩:=ru
   refine⟨_,rfl,pz,_,0,_,rfl,rfl,hpz,rfl,rfl,_,rfl,dH (fun h=>?_) fun h=>?_⟩
   ·refine k _ _ (Same.refl _) ?_
    show cf _ H .non (if vals.getD y.toNat 0=0 then none else _)
    rw [ez,if_pos (hz0.mp h)]
    rfl
   ·have hne:z≠0:=fun e=>h (hz0.mpr e)
    refine⟨_,rfl,_,rfl,show yG K [_,_] H Q E0 from bZ (q,z) ⟨_,_,rfl,rv,ru0,sq,sz,hne⟩ fun H' r s' h=>k H' r s' ?_⟩
    show cf _ H' r (if vals.getD y.toNat 0=0 then none else some (vals.getD x.toNat 0 / vals.getD y.toNat 0))
    rw [ez,if_neg hne,eq]
    exact gQ h
  | neg x hx=>
   have hk:x < vals.length:=hk
   obtain⟨v,q,ev,rv,eq,sq⟩:=at_v x hx hk
   refine⟨_,rfl,p,_,0,_,rfl,rfl,hq,rfl,?_⟩
   refine⟨_,rfl,rfl,_,rfl,aM (by decide) ?_⟩
   refine⟨_,rfl,rfl,_,rfl,aM (by decide) ?_⟩
   refine⟨_,rfl,_,rfl,p,_,1,_,rfl,rfl,hq,rfl,av,_,_,_,rfl,rfl,hav,ev,?_⟩
   refine⟨_,rfl,rfl,_,rfl,cp rfl ?_⟩
   refine⟨_,rfl,show yD K [_] H Q E0 from bZ q ⟨_,rfl,rv⟩ fun H' r s' h=>k H' r s' ?_⟩
   show cf _ H' r (some (-vals.getD x.toNat 0))
   rw [eq]
   exact gQ h
noncomputable abbrev mt:Stmt:=top 48
theorem sc_run_code:aD ["lines","inputs","values","line","value"] ["lines","inputs"] (aw mt):=⟨rfl,rfl,rfl,by decide +kernel,rfl,by decide +kernel,by decide +kernel⟩
noncomputable def FK (K:PySem.W.Frag):Sp:=bP (fun (x:List (List Int)×List Rat) vs H=>∃v1 v2,vs=[v1,v2]∧b0 K (rTI K) H v1 x.1∧b0 K (rFr K) H v2 x.2∧(∀l∈x.1,BM.Wf l)∧BM.Known x.2.length 0 x.1∧x.1.length≤1000)
 (fun x r H=>∃(vs:List Rat) (kd:Nat),u7 K (b0 K (rFr K)) J1 H r (vs,kd)∧Sms vs∧match BM.gE (some 200) x.2 [] (x.1.map BM.aU) with
  | .ok us=>us=vs∧kd=0∧vs.length=x.1.length
  | .error e=>e.line=vs.length∧e.kind=kd∧kd≠0)
theorem Fj (ins vs:List Rat) (l:VagraLine.Line) (r:VagraLine.Code):BM.gE (some 200) ins vs (l::r)=match BM.Rv ins vs l with
  | none=>.error ⟨vs.length,1⟩
  | some a=>if 200 < BM.wt a then .error ⟨vs.length,2⟩ else BM.gE (some 200) ins (vs++[a]) r:=by
 show(match BM.Rv ins vs l with | none=>_ | some a=>if decide (200 < BM.wt a)=true then _ else _)=_
 cases BM.Rv ins vs l with
 | none=>rfl
 | some a=>
  by_cases h:200 < BM.wt a
  ·show(if decide (200 < BM.wt a)=true then _ else _)=(if 200 < BM.wt a then _ else _)
   rw [decide_eq_true h,if_pos rfl,if_pos h]
  ·show(if decide (200 < BM.wt a)=true then _ else _)=(if 200 < BM.wt a then _ else _)
   rw [decide_eq_false h,if_neg Bool.false_ne_true,if_neg h]
theorem zg {f:Addr} {fd:FuncData} (T:Tx P K mg base ad) (F:Fun K "run_code" "run_code" mt f fd) (mO:Fb P w K mg base 43 "work_out" ["line","values","inputs"] (AS K)) (iZ:Fb P w K mg base 40 "weight" ["fraction"] (JU K)):
  FnOk P w K mg base CX0 44 f fd ["lines","inputs"] (FK K):=by
 refine bb (F.ok sc_run_code (fun vs H Q E h=>?_) (fun cdv A outer s H vs Q E hr h=>?_))
 ·obtain⟨x,⟨_,_,rfl,_⟩,_⟩:=h; rfl
 ·obtain⟨⟨cs,ins⟩,⟨v1,v2,rfl,⟨a,us,rfl,ha,hp⟩,⟨ai,ws,rfl,hai,hpi⟩,hw,hkn,hcl⟩,k⟩:=h
  have hp:Paired (rTI K H) us cs:=hp
  have hpi:Paired (rFr K H) ws ins:=hpi
  have hw:∀l∈cs,BM.Wf l:=hw
  have hkn:BM.Known ins.length 0 cs:=hkn
  have hcl:cs.length≤1000:=hcl
  have hul:=aJ hp
  refine⟨_,(ag (aF (i:=2) sc_run_code.nd rfl (Or.inl rfl) (aN ah))
   (ag (cV PassesOwn.never rfl (bQ (pv 0)) (a7 (i:=3) sc_run_code.nd rfl (Or.inl rfl) (hf:=Or.inl rfl))
    (ag (aF (i:=4) sc_run_code.nd rfl (Or.inl rfl) (aP mO (hr.mono (by decide)) rfl (aa (pv 3) (aa (pv 2) (aa (pv 1) ah)))))
    (ag (aS (aE eM (pv 4) bM (aK _)) (aj (ay (bq (aa (pv 2) (aa (aO rfl T.eX) ah))))) aC)
    (ag (aS (aE vm (aP iZ (hr.mono (by decide)) rfl (aa (pv 4) ah)) (aO rfl T.fU) (aK _)) (aj (ay (bq (aa (pv 2) (aa (aO rfl T.cx) ah))))) aC)
    (aj (bX (d9 PySem.F.plainAttrs_list PySem.F.slot_list_append PySem.F.type_list_append b9 (pv 2) (aa (pv 4) ah))))))))
   (aj (ay (bq (aa (pv 2) (aa am ah))))))),?_⟩
  refine⟨Nat.zero_le _,fun l hl'=>?_⟩
  have nl:H l=none:=hl'
  refine⟨_,rfl,a,rfl,⟨us,(Same.new nl).seq ha⟩,?_⟩
  refine eZ (K:=K) (a:=a) (xs:=us) (fun i σ H'=>∃(v3 v4:Option V) (vv:List V) (vs:List Rat),σ=[some (.ref a),some (.ref ai),some (.ref l),v3,v4]∧Same H H'∧H' l=some (.lst vv)∧Paired (rFr K H') vv vs∧vs.length=i∧Sms vs∧
    BM.gE (some 200) ins [] (cs.map BM.aU)=BM.gE (some 200) ins vs ((cs.drop i).map BM.aU))
   ⟨none,none,[],[],rfl,Same.new nl,af,.nil,rfl,(fun q z=>nomatch z),rfl⟩ (fun i σ H' _ ⟨_,_,_,_,_,hs,_⟩=>hs.seq ha) ?_ ?_
  ·rintro i x σ H' hi ⟨v3,v4,vv,vs,rfl,hs,hv,hpv,hvl,hsm,hrun⟩
   obtain⟨c,hc,hcr⟩:=bY hp hi
   have hilt:i < cs.length:=(List.getElem?_eq_some_iff.mp hc).1
   have hdrop:cs.drop i=c::cs.drop (i+1):=by
    obtain⟨b1,b2⟩:=List.getElem?_eq_some_iff.mp hc
    rw [List.drop_eq_getElem_cons b1,b2]
   rw [hdrop,List.map_cons,Fj] at hrun
   have hknown:BM.fZ ins.length vs.length c:=by
    have:=hkn.at hc
    rw [Nat.zero_add] at this
    rw [hvl]
    exact this
   refine⟨_,rfl,_,rfl,_,rfl,?_⟩
   refine(show AS K [x,.ref l,.ref ai] H' _ E0 from bZ (c,vs,ins) ⟨_,_,_,rfl,mTI _ _ _ _ hs hcr,⟨l,vv,rfl,SqL.of hv,hpv⟩,⟨ai,ws,rfl,hs.seq hai,aT mFr hs hpi⟩,hw c (List.mem_of_getElem? hc),hknown,hsm⟩ fun H2 r s2 h2=>?_)
   have h2:cf (rFr K) H2 r (BM.Rv ins vs (BM.aU c)):=h2
   have hv2:=s2 l _ hv
   have hpv2:=aT mFr s2 hpv
   have hs2:=hs.trans s2
   have hvals:∀H3,Same H2 H3→b0 K (rFr K) H3 (.ref l) vs:=fun H3 s3=>⟨l,vv,rfl,SqL.of (s3 l _ hv2),aT mFr s3 hpv2⟩
   cases hR:BM.Rv ins vs (BM.aU c) with
   | none=>
    rw [hR] at h2 hrun
    have h2:r=.non:=h2
    subst h2
    refine⟨_,rfl,rfl,_,rfl,cp rfl ?_⟩
    refine⟨_,rfl,(by show 2≤sizeLine; decide),fun t ht=>?_⟩
    refine k _ _ (hs2.trans (Same.new ht)) ⟨vs,1,⟨t,_,_,rfl,SqT.of af,hvals _ (Same.new ht),rfl⟩,hsm,?_⟩
    show match BM.gE (some 200) ins [] (cs.map BM.aU) with | .ok us=>_ | .error e=>_
    rw [hrun]
    exact⟨rfl,rfl,by decide⟩
   | some q=>
    rw [hR] at h2 hrun
    obtain⟨hnn,hrq⟩:=h2
    have hrun:BM.gE (some 200) ins [] (cs.map BM.aU)=if 200 < BM.wt q then .error ⟨vs.length,2⟩ else BM.gE (some 200) ins (vs++[q]) ((cs.drop (i+1)).map BM.aU):=hrun
    refine⟨_,rfl,rfl,_,rfl,aM hnn ?_⟩
    refine⟨_,rfl,_,_,rfl,hrq,_,_,rfl,rfl,_,rfl,dH (fun h=>?_) fun h=>?_⟩
    ·refine⟨_,rfl,(by show 2≤sizeLine; decide),fun t ht=>?_⟩
     refine k _ _ (hs2.trans (Same.new ht)) ⟨vs,2,⟨t,_,_,rfl,SqT.of af,hvals _ (Same.new ht),rfl⟩,hsm,?_⟩
     show match BM.gE (some 200) ins [] (cs.map BM.aU) with | .ok us=>_ | .error e=>_
     rw [hrun,if_pos (by omega)]
     exact⟨rfl,rfl,by decide⟩
    ·rw [if_neg (by omega)] at hrun
     refine⟨_,rfl,.inl ⟨rfl,_,SqL.of hv2⟩,_,rfl,l,_,_,rfl,rfl,hv2,(by rw [aJ hpv,hvl]; exact bu (by omega)),?_⟩
     refine⟨_,_,_,vs++[q],rfl,hs2.upd1 nl,af,?_,by rw [List.length_append,hvl]; rfl,?_,hrun⟩
     ·exact bz (bh (fun v x r=>CZ r hv2) hpv2) (CZ hrq hv2)
     ·intro z hz
      rcases List.mem_append.mp hz with e | e
      ·exact hsm z e
      ·rw [List.mem_singleton.mp e]; omega
  ·rintro σ H' ⟨v3,v4,vv,vs,rfl,hs,hv,hpv,hvl,hsm,hrun⟩
   refine⟨_,rfl,(by show 2≤sizeLine; decide),fun t ht=>?_⟩
   refine k _ _ (hs.trans (Same.new ht)) ⟨vs,0,⟨t,_,_,rfl,SqT.of af,⟨l,vv,rfl,SqL.of (Same.new ht l _ hv),aT mFr (Same.new ht) hpv⟩,rfl⟩,hsm,?_⟩
   show match BM.gE (some 200) ins [] (cs.map BM.aU) with | .ok us=>_ | .error e=>_
   rw [hrun,hul,List.drop_length]
   exact⟨rfl,rfl,by rw [hvl,hul]⟩
end
end B
namespace B
open PySem PySem.Spec PyProof.Rows L2
noncomputable abbrev dg (K:PySem.W.Frag):Rep (List Int×Int):=u7 K (rLI K) HP
section
variable {P:Program} {w:World} {K:PySem.W.Frag} {mg:Str→Option Value} {base:Heap} {ad:Ad}
theorem Gn:lY (dg K):=kv mLI Lz
theorem gF {α β:Type} {l:List α} {f:α→β} {i:Nat} {x:α} (h:l[i]?= some x):(l.take (i+1)).map f=(l.take i).map f++[f x]:=by
 obtain⟨b1,b2⟩:=List.getElem?_eq_some_iff.mp h
 rw [List.take_succ_eq_append_getElem b1,List.map_append,b2]
 rfl
theorem dE {ns:List Int} {i:Nat} {x:V} (h:(ns.map V.int)[i]?= some x):∃n,ns[i]?= some n∧x=.int n:=by
 rw [List.getElem?_map] at h
 cases e:ns[i]? with
 | none=>rw [e] at h; cases h
 | some n=>rw [e] at h; exact⟨n,rfl,(Option.some.inj h).symm⟩
noncomputable abbrev da:Stmt:=top 59
theorem sc_numerators_over:aD ["denominator","row","factor","x"] ["denominator","row"] (aw da):=⟨rfl,rfl,rfl,by decide +kernel,rfl,by decide +kernel,by decide +kernel⟩
noncomputable def AX (K:PySem.W.Frag):Sp:=bP (fun (x:Int×(List Int×Int)) vs H=>∃v,vs=[.int x.1,v]∧dg K H v x.2∧0 < x.2.2∧(∀y∈x.2.1,IntMulOk y (x.1 / x.2.2))∧x.2.1.length≤1000) (fun x r H=>rLI K H r (BM.qf x.1 x.2).1)
theorem mF {f:Addr} {fd:FuncData} (T:Tx P K mg base ad) (F:Fun K "numerators_over" "numerators_over" da f fd):FnOk P w K mg base CX0 40 f fd ["denominator","row"] (AX K):=by
 refine bb (F.ok sc_numerators_over (fun vs H Q E h=>?_) (fun cdv A outer s H vs Q E hr h=>?_))
 ·obtain⟨x,⟨_,rfl,_⟩,_⟩:=h; rfl
 ·obtain⟨⟨L,ns,d⟩,⟨v,rfl,⟨p,_,_,rfl,hp,⟨a,rfl,ha⟩,rfl⟩,hd,hm,hl⟩,k⟩:=h
  have hd:0 < d:=hd
  have hm:∀y∈ns,IntMulOk y (L / d):=hm
  have hl:ns.length≤1000:=hl
  have ha:SqL K H a (ns.map V.int):=ha
  have dv:=pY (N:=["denominator","row","factor","x"]) (E:=E) (H:=H) (outer:=outer) (K:=K) (mg:=mg) (w:=w) T.seer T.tree sc_numerators_over hr (by decide)
  refine⟨_,(ag (aF (i:=2) sc_numerators_over.nd rfl (Or.inr rfl) (aR (dP dv) (pv 0) (aA aG (pv 1) am (fun _ _=>rfl))))
   (aj (ay (eK (own:=[("x",3)]) rfl sc_numerators_over.nd (bQ (aA aG (pv 1) am (fun _ _=>rfl))) (bH (N:=["denominator","row","factor","x"]) (sc:=aw da) (by decide +kernel)) (fun _ _ _ _ _=>(a7 (i:=3) sc_numerators_over.nd rfl (Or.inl rfl) (hf:=Or.inr rfl))) (fun _ _ _ _ _=>cn) (fun _ _ _ _ _=>(aR bv (pv 3) (pv 2))))))),?_⟩
  refine⟨_,rfl,_,rfl,p,_,1,_,rfl,rfl,hp,rfl,_,_,rfl,rfl,hd,?_⟩
  refine⟨_,rfl,p,_,0,_,rfl,rfl,hp,rfl,a,rfl,⟨_,ha⟩,fun D hD=>?_⟩
  have hD:H D=none:=hD
  refine dD (K:=K) (a:=a) (xs:=ns.map V.int) (fun i H'=>Same H H'∧H' D=some (.lst (((ns.take i).map fun x=>x*(L / d)).map V.int)))
   ⟨Same.new hD,af⟩ (fun i H' _ ⟨s1,_⟩=>s1.seq ha) ?_ ?_
  ·rintro i x H' hi ⟨s1,hv⟩
   obtain⟨n,hn,rfl⟩:=dE hi
   refine⟨rfl,_,rfl,_,rfl,_,_,rfl,rfl,hm n (List.mem_of_getElem? hn),_,hv,?_,s1.upd1 hD,?_⟩
   ·rw [List.length_map,List.length_map,List.length_take]; exact bu (by omega)
   ·rw [af,gF hn,List.map_append]; rfl
  ·rintro H' ⟨s1,hv⟩
   refine k _ _ s1 ⟨D,rfl,SqL.of ?_⟩
   rw [hv,List.length_map,List.take_length]
   rfl
noncomputable def Ft (x:Int):Prop:=Builtin.Int.intBits x≤60000000
theorem Ft.mul {a b:Int} (ha:Ft a) (hb:Ft b):IntMulOk a b:=IntMulOk.of_le ha hb (by decide)
structure Sz (M b:Nat):Prop where
 pos:0 < M
 bits:Builtin.Int.intBits (M:Int)≤20000000
 b:b≤20000000
theorem cC {x y:Int} {m:Nat} (h:x.natAbs≤y.natAbs) (hy:Builtin.Int.intBits y≤m):Builtin.Int.intBits x≤m:=intBits_le_of_natAbs h hy
theorem pA {r:List Int×Int} {M b:Nat} (h:BM.Bd r M b) (z:Sz M b):Builtin.Int.intBits r.2≤20000000:=by
 have h1:=Nat.le_of_dvd z.pos h.dvd
 have h2:=h.pos
 exact cC (y:=(M:Int)) (by omega) z.bits
theorem Aa {x:Int} {b d n:Nat} (h:x.natAbs≤2 ^ b*d) (hd:Builtin.Int.intBits (d:Int)≤n):Builtin.Int.intBits x≤b+n:=by
 have h2:=intBits_le_iff.mp hd
 have h2:d < 2 ^ n:=h2
 refine intBits_le_iff.mpr ?_
 rw [Nat.pow_add]
 exact Nat.lt_of_le_of_lt h (Nat.mul_lt_mul_of_pos_left h2 (Nat.two_pow_pos b))
theorem px {r:List Int×Int} {M b:Nat} (h:BM.Bd r M b) (z:Sz M b) {x:Int} (hx:x∈r.1):Builtin.Int.intBits x≤40000000:=by
 have h1:=Aa (h.le x hx) (n:=20000000) (by
  have h2:=pA h z
  have h3:=h.pos
  have e:((r.2.toNat:Nat):Int)=r.2:=by omega
  rw [e]
  exact h2)
 have h4:=z.b
 exact Nat.le_trans h1 (by omega)
theorem fo {x:Int} {m:Nat} (h:Builtin.Int.intBits x≤m) (hm:m≤60000000):Ft x:=Nat.le_trans h hm
noncomputable abbrev fz:Stmt:=top 52
theorem ia:aD ["a","b"] ["a","b"] (aw fz):=⟨rfl,rfl,rfl,by decide +kernel,rfl,by decide +kernel,by decide +kernel⟩
noncomputable def FL:Sp:=fun vs H Q _=>∃a b:Int,vs=[.int a,.int b]∧0 < a∧0 < b∧Ft a∧Ft b∧Q (.int (Int.lcm a b:Nat)) H
theorem Iw {a b:Int} (ha:0 < a) (hb:0 < b):a / (Int.gcd a b:Nat)*b=(Int.lcm a b:Nat):=by
 obtain⟨m,rfl⟩:=Int.eq_ofNat_of_zero_le (Int.le_of_lt ha)
 obtain⟨n,rfl⟩:=Int.eq_ofNat_of_zero_le (Int.le_of_lt hb)
 show((m:Int) / ((Nat.gcd m n:Nat):Int))*(n:Int)=((Nat.lcm m n:Nat):Int)
 rw [←Int.natCast_ediv,←Int.natCast_mul]
 refine congrArg _ ?_
 have hg:0 < Nat.gcd m n:=Nat.gcd_pos_of_pos_left _ (by omega)
 obtain⟨k,hk⟩:=Nat.gcd_dvd_left m n
 unfold Nat.lcm
 have e1:m / Nat.gcd m n=k:=Nat.div_eq_of_eq_mul_right hg hk
 rw [e1]
 have e2:m*n=Nat.gcd m n*(k*n):=by rw [←Nat.mul_assoc,←hk]
 rw [e2,Nat.mul_div_cancel_left _ hg]
theorem nB {f:Addr} {fd:FuncData} (T:Tx P K mg base ad) (F:Fun K "least_multiple" "least_multiple" fz f fd) (bi:Fb P w K mg base 40 "greatest_divisor" ["a","b"] CS):FnOk P w K mg base CX0 41 f fd ["a","b"] FL:=by
 refine F.ok ia (fun vs H Q E h=>?_) (fun cdv A outer s H vs Q E hr h=>?_)
 ·obtain⟨_,_,rfl,_⟩:=h; rfl
 ·obtain⟨a,b,rfl,ha,hb,fa,fb,k⟩:=h
  have dv:=pY (N:=["a","b"]) (E:=E) (H:=H) (outer:=outer) (K:=K) (mg:=mg) (w:=w) T.seer T.tree ia hr (by decide)
  have hg:0 < Int.gcd a b:=Int.gcd_pos_of_ne_zero_left b (by omega)
  refine⟨_,(aj (ay (aR bv (aR (dP dv) (pv 0) (aP bi (hr.mono (by decide)) rfl (aa (pv 0) (aa (pv 1) ah)))) (pv 1)))),?_⟩
  refine⟨_,rfl,_,rfl,_,rfl,a,b,rfl,(by omega),(by omega),_,_,rfl,rfl,(by show(0:Int) < (Int.gcd a b:Nat); omega),_,rfl,_,_,rfl,rfl,?_,?_⟩
  ·refine Ft.mul (cC (y:=a) ?_ fa) fb
   rw [Int.natAbs_ediv_of_nonneg (by omega)]
   exact Nat.div_le_self _ _
  ·show Q (.int (a / (Int.gcd a b:Nat)*b)) H
   rw [Iw ha hb]
   exact k
noncomputable abbrev qH:Stmt:=top 53
theorem sc_scale:aD ["row","fraction","x"] ["row","fraction"] (aw qH):=⟨rfl,rfl,rfl,by decide +kernel,rfl,by decide +kernel,by decide +kernel⟩
noncomputable def wc (K:PySem.W.Frag):Sp:=bP (fun (x:(List Int×Int)×Rat) vs H=>∃v u,vs=[v,u]∧dg K H v x.1∧rFr K H u x.2∧(∀y∈x.1.1,Ft y)∧Ft x.1.2∧Sm x.2∧x.1.1.length≤1000) (fun x r H=>dg K H r (BM.ke x.1 x.2))
theorem Sm.ftn {q:Rat} (h:Sm q):Ft q.num:=Nat.le_trans h.num (by decide)
theorem Sm.ftd {q:Rat} (h:Sm q):Ft (q.den:Int):=Nat.le_trans h.den (by decide)
theorem Gd {f:Addr} {fd:FuncData} (T:Tx P K mg base ad) (F:Fun K "scale" "scale" qH f fd):FnOk P w K mg base CX0 40 f fd ["row","fraction"] (wc K):=by
 refine bb (F.ok sc_scale (fun vs H Q E h=>?_) (fun cdv A outer s H vs Q E hr h=>?_))
 ·obtain⟨x,⟨_,_,rfl,_⟩,_⟩:=h; rfl
 ·obtain⟨⟨⟨ns,d⟩,q⟩,⟨v,u,rfl,⟨p,_,_,rfl,hp,⟨a,rfl,ha⟩,rfl⟩,⟨pq,rfl,hq⟩,hn,hd,hs,hl⟩,k⟩:=h
  have hn:∀y∈ns,Ft y:=hn
  have hl:ns.length≤1000:=hl
  have hs:Sm q:=hs
  have ha:SqL K H a (ns.map V.int):=ha
  refine⟨_,(aj (ay (bq (aa (eK (own:=[("x",2)]) rfl sc_scale.nd (bQ (aA aG (pv 0) am (fun _ _=>rfl))) (bH (N:=["row","fraction","x"]) (sc:=aw qH) (by decide +kernel)) (fun _ _ _ _ _=>(a7 (i:=2) sc_scale.nd rfl (Or.inl rfl) (hf:=Or.inr rfl))) (fun _ _ _ _ _=>cn) (fun _ _ _ _ _=>(aR bv (pv 2) (aA (ixT (K:=K) rfl) (pv 1) am (fun _ _=>rfl))))) (aa (aR bv (aA aG (pv 0) am (fun _ _=>rfl)) (aA aG (pv 1) am (fun _ _=>rfl))) ah))))),?_⟩
  refine⟨_,rfl,p,_,0,_,rfl,rfl,hp,rfl,a,rfl,⟨_,ha⟩,fun D hD=>?_⟩
  have hD:H D=none:=hD
  refine dD (K:=K) (a:=a) (xs:=ns.map V.int) (fun i H'=>Same H H'∧H' D=some (.lst (((ns.take i).map fun x=>x*q.num).map V.int)))
   ⟨Same.new hD,af⟩ (fun i H' _ ⟨s1,_⟩=>s1.seq ha) ?_ ?_
  ·rintro i x H' hi ⟨s1,hv⟩
   obtain⟨n,hn',rfl⟩:=dE hi
   refine⟨rfl,_,rfl,_,rfl,pq,_,0,_,rfl,rfl,s1.tup hq,rfl,_,_,rfl,rfl,(hn n (List.mem_of_getElem? hn')).mul hs.ftn,_,hv,?_,s1.upd1 hD,?_⟩
   ·rw [List.length_map,List.length_map,List.length_take]; exact bu (by omega)
   ·rw [af,gF hn',List.map_append]; rfl
  ·rintro H' ⟨s1,hv⟩
   refine⟨_,rfl,p,_,1,_,rfl,rfl,s1.tup hp,rfl,_,rfl,pq,_,1,_,rfl,rfl,s1.tup hq,rfl,_,_,rfl,rfl,Ft.mul hd hs.ftd,(by show 2≤sizeLine; decide),fun t ht=>?_⟩
   refine k _ _ (s1.trans (Same.new ht)) ⟨t,_,_,rfl,SqT.of af,⟨D,rfl,SqL.of ?_⟩,rfl⟩
   rw [aq (az hv ht),hv,List.length_map,List.take_length]
   rfl
noncomputable abbrev lA:Stmt:=top 55
theorem sc_shorten:aD ["numerators","denominator","divisor","x"] ["numerators","denominator"] (aw lA):=⟨rfl,rfl,rfl,by decide +kernel,rfl,by decide +kernel,by decide +kernel⟩
noncomputable def wb (K:PySem.W.Frag):Sp:=bP (fun (x:List Int×Int) vs H=>∃v,vs=[v,.int x.2]∧rLI K H v x.1∧0 < x.2∧x.1.length≤1000) (fun x r H=>∃g:Int,0 < g∧g∣x.2∧(∀y∈x.1,g∣y)∧dg K H r (BM.short x g))
theorem Br {f:Addr} {fd:FuncData} (T:Tx P K mg base ad) (F:Fun K "shorten" "shorten" lA f fd) (bi:Fb P w K mg base 40 "greatest_divisor" ["a","b"] CS):FnOk P w K mg base CX0 41 f fd ["numerators","denominator"] (wb K):=by
 refine bb (F.ok sc_shorten (fun vs H Q E h=>?_) (fun cdv A outer s H vs Q E hr h=>?_))
 ·obtain⟨x,⟨_,rfl,_⟩,_⟩:=h; rfl
 ·obtain⟨⟨ns,d⟩,⟨v,rfl,⟨a,rfl,ha⟩,hd,hl⟩,k⟩:=h
  have hd:0 < d:=hd
  have hl:ns.length≤1000:=hl
  have ha:SqL K H a (ns.map V.int):=ha
  have dv:=pY (N:=["numerators","denominator","divisor","x"]) (E:=E) (H:=H) (outer:=outer) (K:=K) (mg:=mg) (w:=w) T.seer T.tree sc_shorten hr (by decide)
  refine⟨_,(ag (aF (i:=2) sc_shorten.nd rfl (Or.inr rfl) (pv 1))
   (ag (cV PassesOwn.never rfl (bQ (pv 0)) (a7 (i:=3) sc_shorten.nd rfl (Or.inl rfl) (hf:=Or.inl rfl))
    (ag (aS (aE bN (pv 2) am (aK _)) (aj (ay (bq (aa (pv 0) (aa (pv 1) ah))))) aC)
    (aj (aF (i:=2) sc_shorten.nd rfl (Or.inr rfl) (aP bi (hr.mono (by decide)) rfl (aa (ba kY rfl T.p0 kZ (aa (pv 3) ah)) (aa (pv 2) ah)))))))
   (aj (ay (bq (aa (eK (own:=[("x",3)]) rfl sc_shorten.nd (bQ (pv 0)) (bH (N:=["numerators","denominator","divisor","x"]) (sc:=aw lA) (by decide +kernel)) (fun _ _ _ _ _=>(a7 (i:=3) sc_shorten.nd rfl (Or.inl rfl) (hf:=Or.inr rfl))) (fun _ _ _ _ _=>cn) (fun _ _ _ _ _=>(aR (dP dv.blk) (pv 3) (pv 2)))) (aa (aR (dP dv) (pv 1) (pv 2)) ah))))))),?_⟩
  refine⟨_,rfl,?_⟩
  refine⟨_,rfl,a,rfl,⟨_,ha⟩,?_⟩
  refine eZ (K:=K) (a:=a) (xs:=ns.map V.int) (fun i σ H'=>∃(g:Int) (v3:Option V),σ=[some (.ref a),some (.int d),some (.int g),v3]∧H'=H∧0 < g∧g∣d∧∀y∈ns.take i,g∣y)
   ⟨d,none,rfl,rfl,hd,Int.dvd_refl d,fun y hy=>by simp at hy⟩ (fun i σ H' _ ⟨_,_,_,e,_⟩=>by rw [e]; exact ha) ?_ ?_
  ·rintro i x σ H' hi ⟨g,v3,rfl,rfl,hg,hgd,hgn⟩
   obtain⟨n,hn,rfl⟩:=dE hi
   refine⟨_,rfl,rfl,_,rfl,dH (fun h=>?_) fun h=>?_⟩
   ·injection h with h
    refine⟨_,rfl,_,rfl,(by show 2≤sizeLine; decide),fun t ht=>?_⟩
    refine k _ _ (Same.new ht) ⟨1,(by decide),Int.one_dvd _,fun _ _=>Int.one_dvd _,t,_,_,rfl,SqT.of af,⟨a,rfl,(Same.new ht).seq ?_⟩,?_⟩
    ·show SqL K H' a ((ns.map fun x=>x / 1).map V.int)
     have e:(ns.map fun x=>x / 1)=ns:=by
      conv=>rhs; rw [←List.map_id ns]
      exact List.map_congr_left fun x _=>Int.ediv_one x
     rw [e]
     exact ha
    ·show V.int d=.int (d / 1)
     rw [Int.ediv_one]
   ·refine⟨_,rfl,n,rfl,_,rfl,_,g,rfl,(by rw [Ai]; omega),(by omega),?_⟩
    have e:Int.gcd (if n < 0 then -n else n) g=Int.gcd n g:=by rw [Ai]; rfl
    rw [e]
    have d1:(Int.gcd n g:Int)∣n:=Int.gcd_dvd_left ..
    have d2:(Int.gcd n g:Int)∣g:=Int.gcd_dvd_right ..
    have hp:0 < Int.gcd n g:=Int.gcd_pos_of_ne_zero_right n (by omega)
    refine⟨_,_,rfl,rfl,(by omega),Int.dvd_trans d2 hgd,fun y hy=>?_⟩
    obtain⟨b1,b2⟩:=List.getElem?_eq_some_iff.mp hn
    rw [List.take_succ_eq_append_getElem b1] at hy
    rcases List.mem_append.mp hy with z | z
    ·exact Int.dvd_trans d2 (hgn y z)
    ·rw [List.mem_singleton.mp z,b2]; exact d1
  ·rintro σ H' ⟨g,v3,rfl,rfl,hg,hgd,hgn⟩
   rw [List.length_map,List.take_length] at hgn
   refine⟨_,rfl,a,rfl,⟨_,ha⟩,fun D hD=>?_⟩
   have hD:H' D=none:=hD
   refine dD (K:=K) (a:=a) (xs:=ns.map V.int) (fun i H2=>Same H' H2∧H2 D=some (.lst (((ns.take i).map fun x=>x / g).map V.int)))
    ⟨Same.new hD,af⟩ (fun i H2 _ ⟨s1,_⟩=>s1.seq ha) ?_ ?_
   ·rintro i x H2 hi ⟨s1,hv⟩
    obtain⟨n,hn',rfl⟩:=dE hi
    refine⟨rfl,_,rfl,_,rfl,_,_,rfl,rfl,hg,_,hv,?_,s1.upd1 hD,?_⟩
    ·rw [List.length_map,List.length_map,List.length_take]; exact bu (by omega)
    ·rw [af,gF hn',List.map_append]; rfl
   ·rintro H2 ⟨s1,hv⟩
    refine⟨_,rfl,_,rfl,_,_,rfl,rfl,hg,(by show 2≤sizeLine; decide),fun t ht=>?_⟩
    refine k _ _ (s1.trans (Same.new ht)) ⟨g,hg,hgd,hgn,t,_,_,rfl,SqT.of af,⟨D,rfl,SqL.of ?_⟩,rfl⟩
    rw [aq (az hv ht),hv,List.length_map,List.take_length]
    rfl
end
end B
namespace B
open PySem PySem.Spec PyProof.Rows L2
section
variable {P:Program} {w:World} {K:PySem.W.Frag} {mg:Str→Option Value} {base:Heap} {ad:Ad}
theorem yz {α β γ:Type} {f:α→β→γ} {l:List α} {m:List β} {i:Nat} {x:α} {y:β} (h:l[i]?= some x) (h':m[i]?= some y):List.zipWith f (l.take (i+1)) (m.take (i+1))=List.zipWith f (l.take i) (m.take i)++[f x y]:=by
 obtain⟨b1,b2⟩:=List.getElem?_eq_some_iff.mp h
 obtain⟨c1,c2⟩:=List.getElem?_eq_some_iff.mp h'
 rw [List.take_succ_eq_append_getElem b1,List.take_succ_eq_append_getElem c1,List.zipWith_append (by rw [List.length_take,List.length_take]; omega),b2,c2]
 rfl
noncomputable abbrev ji:Stmt:=top 54
theorem sc_add_rows:aD ["a","b","denominator","for_a","for_b","x","y"] ["a","b"] (aw ji):=⟨rfl,rfl,rfl,by decide +kernel,rfl,by decide +kernel,by decide +kernel⟩
noncomputable def ot (K:PySem.W.Frag):Sp:=bP (fun (x:(List Int×Int)×(List Int×Int)×Nat×Nat) vs H=>∃v u,vs=[v,u]∧dg K H v x.1∧dg K H u x.2.1∧BM.Bd x.1 x.2.2.1 x.2.2.2∧BM.Bd x.2.1 x.2.2.1 x.2.2.2∧Sz x.2.2.1 x.2.2.2∧x.1.1.length=x.2.1.1.length∧x.1.1.length≤1000)
 (fun x r H=>∃row,dg K H r row∧BM.val row=List.zipWith (·+ ·) (BM.val x.1) (BM.val x.2.1)∧BM.Bd row x.2.2.1 (x.2.2.2+1)∧row.1.length=x.1.1.length)
theorem pV {a b:Int} {M:Nat} (ha:0 < a) (hb:0 < b) (h:a.toNat∣M) (h':b.toNat∣M):(Int.lcm a b)∣M:=by
 have e:Int.lcm a b=Nat.lcm a.toNat b.toNat:=by
  show Nat.lcm a.natAbs b.natAbs=_
  rw [show a.natAbs=a.toNat by omega,show b.natAbs=b.toNat by omega]
 rw [e]
 exact Nat.lcm_dvd h h'
theorem zk {f:Addr} {fd:FuncData} (T:Tx P K mg base ad) (F:Fun K "add_rows" "add_rows" ji f fd) (ca:Fb P w K mg base 41 "least_multiple" ["a","b"] FL) (oX:Fb P w K mg base 41 "shorten" ["numerators","denominator"] (wb K)):
  FnOk P w K mg base CX0 42 f fd ["a","b"] (ot K):=by
 refine bb (F.ok sc_add_rows (fun vs H Q E h=>?_) (fun cdv A outer s H vs Q E hr h=>?_))
 ·obtain⟨x,⟨_,_,rfl,_⟩,_⟩:=h; rfl
 ·obtain⟨⟨⟨ns,d⟩,⟨ms,e⟩,M,b⟩,⟨v,u,rfl,⟨p,_,_,rfl,hp,⟨a,rfl,ha⟩,rfl⟩,⟨p',_,_,rfl,hp',⟨a',rfl,ha'⟩,rfl⟩,hb,hb',hz,hle,hl⟩,k⟩:=h
  have hb:BM.Bd (ns,d) M b:=hb
  have hb':BM.Bd (ms,e) M b:=hb'
  have hz:Sz M b:=hz
  have hl:ns.length≤1000:=hl
  have hle:ns.length=ms.length:=hle
  have ha:SqL K H a (ns.map V.int):=ha
  have ha':SqL K H a' (ms.map V.int):=ha'
  have hd:0 < d:=hb.pos
  have he:0 < e:=hb'.pos
  have dv:=pY (N:=["a","b","denominator","for_a","for_b","x","y"]) (E:=E) (H:=H) (outer:=outer) (K:=K) (mg:=mg) (w:=w) T.seer T.tree sc_add_rows hr (by decide)
  have fd':Ft d:=fo (pA hb hz) (by decide)
  have fe':Ft e:=fo (pA hb' hz) (by decide)
  obtain⟨L,hL⟩:∃L:Int,L=(Int.lcm d e:Nat):=⟨_,rfl⟩
  have hLM:L.toNat∣M:=by rw [hL]; exact pV hd he hb.dvd hb'.dvd
  have hLp:0 < L:=by
   rw [hL]
   have:=Int.lcm_pos (by omega:d≠0) (by omega:e≠0)
   omega
  have dL:d∣L:=by rw [hL]; exact Int.dvd_lcm_left ..
  have eL:e∣L:=by rw [hL]; exact Int.dvd_lcm_right ..
  have hLb:Builtin.Int.intBits L≤20000000:=cC (y:=(M:Int)) (by have:=Nat.le_of_dvd hz.pos hLM; omega) hz.bits
  have ftq:∀z:Int,0 < z→Ft (L / z):=fun z hz=>by
   refine fo (cC (y:=L) ?_ hLb) (by decide)
   rw [Int.natAbs_ediv_of_nonneg (by omega)]
   exact Nat.div_le_self _ _
  refine⟨_,(ag (aF (i:=2) sc_add_rows.nd rfl (Or.inl rfl) (aP ca (hr.mono (by decide)) rfl (aa (aA aG (pv 0) am (fun _ _=>rfl)) (aa (aA aG (pv 1) am (fun _ _=>rfl)) ah))))
   (ag (aF (i:=3) sc_add_rows.nd rfl (Or.inr rfl) (aR (dP dv) (pv 2) (aA aG (pv 0) am (fun _ _=>rfl))))
   (ag (aF (i:=4) sc_add_rows.nd rfl (Or.inr rfl) (aR (dP dv) (pv 2) (aA aG (pv 1) am (fun _ _=>rfl))))
   (aj (ay (aP oX (hr.mono (by decide)) rfl (aa (eK (own:=[("x",5),("y",6)]) rfl sc_add_rows.nd (F3 rfl T.Ac (aa (aA aG (pv 0) am (fun _ _=>rfl)) (aa (aA aG (pv 1) am (fun _ _=>rfl)) ah))) (bH (N:=["a","b","denominator","for_a","for_b","x","y"]) (sc:=aw ji) (by decide +kernel)) (fun _ _ _ _ _=>(C4 (K:=K) (n:=2) rfl rfl (cP (a7 (i:=5) sc_add_rows.nd rfl (Or.inl rfl) (hf:=Or.inr rfl)) (cP (a7 (i:=6) sc_add_rows.nd rfl (Or.inl rfl) (hf:=Or.inr rfl)) lE)))) (fun _ _ _ _ _=>cn) (fun _ _ _ _ _=>(aR cu (aR bv (pv 5) (pv 3)) (aR bv (pv 6) (pv 4))))) (aa (pv 2) ah)))))))),?_⟩
  refine⟨_,rfl,p,_,1,_,rfl,rfl,hp,rfl,_,rfl,p',_,1,_,rfl,rfl,hp',rfl,d,e,rfl,hd,he,fd',fe',?_⟩
  rw [←hL]
  refine⟨_,rfl,_,rfl,p,_,1,_,rfl,rfl,hp,rfl,_,_,rfl,rfl,hd,?_⟩
  refine⟨_,rfl,_,rfl,p',_,1,_,rfl,rfl,hp',rfl,_,_,rfl,rfl,he,?_⟩
  refine⟨_,rfl,p,_,0,_,rfl,rfl,hp,rfl,_,rfl,p',_,0,_,rfl,rfl,hp',rfl,a,a',_,_,rfl,ha,ha',fun D hD=>?_⟩
  have hD:H D=none:=hD
  refine Gr (K:=K) (a:=a) (b:=a') (xs:=ns.map V.int) (ys:=ms.map V.int) (by rw [List.length_map,List.length_map,hle]) (fun i H'=>Same H H'∧H' D=some (.lst ((List.zipWith (fun x y=>x*(L / d)+y*(L / e)) (ns.take i) (ms.take i)).map V.int)))
   ⟨Same.new hD,af⟩ (fun i H' _ ⟨s1,_⟩=>⟨s1.seq ha,s1.seq ha'⟩) ?_ ?_
  ·rintro i x y H' t hx hy ⟨s1,hv⟩ ht
   obtain⟨n,hn,rfl⟩:=dE hx
   obtain⟨m,hm,rfl⟩:=dE hy
   have hDt:D≠t:=az hv ht
   refine⟨t,_,rfl,SqT.of af,rfl,_,_,rfl,_,_,rfl,rfl,rfl,_,rfl,_,rfl,_,_,rfl,rfl,?_,_,rfl,_,rfl,_,_,rfl,rfl,?_,_,_,rfl,rfl,_,Same.new ht D _ hv,?_,?_⟩
   ·exact Ft.mul (fo (px hb hz (List.mem_of_getElem? hn)) (by decide)) (ftq d hd)
   ·exact Ft.mul (fo (px hb' hz (List.mem_of_getElem? hm)) (by decide)) (ftq e he)
   ·rw [List.length_map,List.length_zipWith,List.length_take]; exact bu (by omega)
   ·refine⟨(s1.trans (Same.new ht)).upd1 hD,?_⟩
    rw [af,yz hn hm,List.map_append]
    rfl
  ·rintro H' ⟨s1,hv⟩
   rw [List.length_map,List.take_length,show ns.length=ms.length from hle,List.take_length] at hv
   refine⟨_,rfl,?_⟩
   have hsl:(BM.rc L (ns,d) (ms,e)).1.length=ns.length:=by
    show(List.zipWith _ ns ms).length=_
    rw [List.length_zipWith]; omega
   refine(show wb K [.ref D,.int L] H' Q E0 from bZ (BM.rc L (ns,d) (ms,e)) ⟨_,rfl,⟨D,rfl,SqL.of hv⟩,hLp,(by rw [hsl]; exact hl)⟩ fun H2 r s2 h2=>?_)
   obtain⟨g,hg,hgd,hgn,hrow⟩:=h2
   refine k _ _ (s1.trans s2) ⟨_,hrow,?_,?_,?_⟩
   ·rw [BM.Ed hg hgd hgn]
    exact BM.AR hb hb' hLp dL eL
   ·exact BM.FP hg hgd hgn (BM.D9 hb hb' hLp dL eL hLM)
   ·show(List.map _ _).length=_
    rw [List.length_map,hsl]
noncomputable abbrev CW:Stmt:=top 60
theorem sc_dot:aD ["xs","ys","x","y"] ["xs","ys"] (aw CW):=⟨rfl,rfl,rfl,by decide +kernel,rfl,by decide +kernel,by decide +kernel⟩
noncomputable def B3 (xs ys:List Int):Int:=(List.zipWith (·* ·) xs ys).sum
noncomputable def yF (K:PySem.W.Frag):Sp:=bP (fun (x:List Int×List Int) vs H=>∃v u,vs=[v,u]∧rLI K H v x.1∧rLI K H u x.2∧(∀y∈x.1,Ft y)∧(∀y∈x.2,Ft y)∧x.1.length=x.2.length∧x.1.length≤1000) (fun x r _=>r=.int (B3 x.1 x.2))
theorem Ke {f:Addr} {fd:FuncData} (T:Tx P K mg base ad) (F:Fun K "dot" "dot" CW f fd):FnOk P w K mg base CX0 40 f fd ["xs","ys"] (yF K):=by
 refine bb (F.ok sc_dot (fun vs H Q E h=>?_) (fun cdv A outer s H vs Q E hr h=>?_))
 ·obtain⟨x,⟨_,_,rfl,_⟩,_⟩:=h; rfl
 ·obtain⟨⟨ns,ms⟩,⟨v,u,rfl,⟨a,rfl,ha⟩,⟨a',rfl,ha'⟩,fn,fm,hle,hl⟩,k⟩:=h
  have fn:∀y∈ns,Ft y:=fn
  have fm:∀y∈ms,Ft y:=fm
  have hl:ns.length≤1000:=hl
  have hle:ns.length=ms.length:=hle
  have ha:SqL K H a (ns.map V.int):=ha
  have ha':SqL K H a' (ms.map V.int):=ha'
  refine⟨_,(aj (ay (ba (KF rfl) rfl T.DK G2 (aa (eK (own:=[("x",2),("y",3)]) rfl sc_dot.nd (F3 rfl T.Ac (aa (pv 0) (aa (pv 1) ah))) (bH (N:=["xs","ys","x","y"]) (sc:=aw CW) (by decide +kernel)) (fun _ _ _ _ _=>(C4 (K:=K) (n:=2) rfl rfl (cP (a7 (i:=2) sc_dot.nd rfl (Or.inl rfl) (hf:=Or.inr rfl)) (cP (a7 (i:=3) sc_dot.nd rfl (Or.inl rfl) (hf:=Or.inr rfl)) lE)))) (fun _ _ _ _ _=>cn) (fun _ _ _ _ _=>(aR bv (pv 2) (pv 3)))) ah)))),?_⟩
  refine⟨_,rfl,_,rfl,a,a',_,_,rfl,ha,ha',fun D hD=>?_⟩
  have hD:H D=none:=hD
  refine Gr (K:=K) (a:=a) (b:=a') (xs:=ns.map V.int) (ys:=ms.map V.int) (by rw [List.length_map,List.length_map,hle]) (fun i H'=>Same H H'∧H' D=some (.lst ((List.zipWith (·* ·) (ns.take i) (ms.take i)).map V.int)))
   ⟨Same.new hD,af⟩ (fun i H' _ ⟨s1,_⟩=>⟨s1.seq ha,s1.seq ha'⟩) ?_ ?_
  ·rintro i x y H' t hx hy ⟨s1,hv⟩ ht
   obtain⟨n,hn,rfl⟩:=dE hx
   obtain⟨m,hm,rfl⟩:=dE hy
   have hDt:D≠t:=az hv ht
   refine⟨t,_,rfl,SqT.of af,rfl,_,_,rfl,_,_,rfl,rfl,rfl,_,rfl,_,rfl,_,_,rfl,rfl,(fn n (List.mem_of_getElem? hn)).mul (fm m (List.mem_of_getElem? hm)),_,Same.new ht D _ hv,?_,?_⟩
   ·rw [List.length_map,List.length_zipWith,List.length_take]; exact bu (by omega)
   ·refine⟨(s1.trans (Same.new ht)).upd1 hD,?_⟩
    rw [af,yz hn hm,List.map_append]
    rfl
  ·rintro H' ⟨s1,hv⟩
   rw [List.length_map,List.take_length,show ns.length=ms.length from hle,List.take_length] at hv
   exact⟨D,_,rfl,SqL.of hv,k _ _ s1 rfl⟩
noncomputable abbrev ud (K:PySem.W.Frag):Rep (List (List Int)×Int):=u7 K (b0 K (rLI K)) HP
theorem EE:lY (ud K):=kv (gU mLI) Lz
noncomputable abbrev ij:Stmt:=top 63
theorem sc_column_of:aD ["table","k","numerators"] ["table","k"] (aw ij):=⟨rfl,rfl,rfl,by decide +kernel,rfl,by decide +kernel,by decide +kernel⟩
noncomputable def FN (K:PySem.W.Frag):Sp:=bP (fun (x:(List (List Int)×Int)×Nat) vs H=>∃v,vs=[v,.int (x.2:Int)]∧ud K H v x.1∧(∀l∈x.1.1,x.2 < l.length)∧x.1.1.length≤1000) (fun x r H=>rLI K H r (x.1.1.map fun l=>l.getD x.2 0))
theorem wJ {f:Addr} {fd:FuncData} (T:Tx P K mg base ad) (F:Fun K "column_of" "column_of" ij f fd):FnOk P w K mg base CX0 40 f fd ["table","k"] (FN K):=by
 refine bb (F.ok sc_column_of (fun vs H Q E h=>?_) (fun cdv A outer s H vs Q E hr h=>?_))
 ·obtain⟨x,⟨_,rfl,_⟩,_⟩:=h; rfl
 ·obtain⟨⟨⟨ls,d⟩,c⟩,⟨v,rfl,⟨p,_,_,rfl,hp,⟨a,us,rfl,ha,hpr⟩,rfl⟩,hc,hl⟩,k⟩:=h
  have hc:∀l∈ls,c < l.length:=hc
  have hl:ls.length≤1000:=hl
  have hpr:Paired (rLI K H) us ls:=hpr
  have hul:=aJ hpr
  refine⟨_,(aj (ay (eK (own:=[("numerators",2)]) rfl sc_column_of.nd (bQ (aA aG (pv 0) am (fun _ _=>rfl))) (bH (N:=["table","k","numerators"]) (sc:=aw ij) (by decide +kernel)) (fun _ _ _ _ _=>(a7 (i:=2) sc_column_of.nd rfl (Or.inl rfl) (hf:=Or.inr rfl))) (fun _ _ _ _ _=>cn) (fun _ _ _ _ _=>(aA (ixL (K:=K) rfl) (pv 2) (pv 1) (fun _ _=>rfl)))))),?_⟩
  refine⟨_,rfl,p,_,0,_,rfl,rfl,hp,rfl,a,rfl,⟨_,ha⟩,fun D hD=>?_⟩
  have hD:H D=none:=hD
  refine dD (K:=K) (a:=a) (xs:=us) (fun i H'=>Same H H'∧H' D=some (.lst (((ls.take i).map fun l=>l.getD c 0).map V.int)))
   ⟨Same.new hD,af⟩ (fun i H' _ ⟨s1,_⟩=>s1.seq ha) ?_ ?_
  ·rintro i x H' hi ⟨s1,hv⟩
   obtain⟨l,hl',⟨al,rfl,hal⟩⟩:=bY hpr hi
   have hcl:=hc l (List.mem_of_getElem? hl')
   obtain⟨n,hn⟩:∃n,l[c]?= some n:=⟨_,List.getElem?_eq_getElem hcl⟩
   refine⟨rfl,_,rfl,_,rfl,al,_,_,_,rfl,rfl,s1.seq hal,bW rfl (g5 hn),_,hv,?_,s1.upd1 hD,?_⟩
   ·rw [List.length_map,List.length_map,List.length_take]; exact bu (by omega)
   ·rw [af,gF hl',List.map_append]
    show _=some (HO.lst (_++[V.int (l.getD c 0)]))
    rw [List.getD_eq_getElem?_getD (l:=l),hn]
    rfl
  ·rintro H' ⟨s1,hv⟩
   refine k _ _ s1 ⟨D,rfl,SqL.of ?_⟩
   rw [hv,hul,List.take_length]
noncomputable abbrev wu:Stmt:=top 61
theorem sc_push:aD ["direction","table","numerators"] ["direction","table"] (aw wu):=⟨rfl,rfl,rfl,by decide +kernel,rfl,by decide +kernel,by decide +kernel⟩
structure Ar (r:List Int×Int) (t:List (List Int)×Int):Prop where
 rn:∀x∈r.1,Ft x
 rd:Ft r.2
 tn:∀l∈t.1,∀x∈l,Ft x
 td:Ft t.2
 len:∀l∈t.1,l.length=r.1.length
 sq:t.1.length=r.1.length
 short:r.1.length≤1000
noncomputable def pushed (r:List Int×Int) (t:List (List Int)×Int):List Int×Int:=(t.1.map fun l=>B3 l r.1,r.2*t.2)
noncomputable def turned (r:List Int×Int) (t:List (List Int)×Int):List Int×Int:=((List.range t.1.length).map fun k=>B3 r.1 (t.1.map fun l=>l.getD k 0),r.2*t.2)
noncomputable def AW (K:PySem.W.Frag):Sp:=bP (fun (x:(List Int×Int)×(List (List Int)×Int)) vs H=>∃v u,vs=[v,u]∧dg K H v x.1∧ud K H u x.2∧Ar x.1 x.2) (fun x r H=>dg K H r (pushed x.1 x.2))
noncomputable def AT (K:PySem.W.Frag):Sp:=bP (fun (x:(List Int×Int)×(List (List Int)×Int)) vs H=>∃v u,vs=[v,u]∧dg K H v x.1∧ud K H u x.2∧Ar x.1 x.2) (fun x r H=>dg K H r (turned x.1 x.2))
theorem Ic {f:Addr} {fd:FuncData} (T:Tx P K mg base ad) (F:Fun K "push" "push" wu f fd) (vz:Fb P w K mg base 40 "dot" ["xs","ys"] (yF K)):FnOk P w K mg base CX0 41 f fd ["direction","table"] (AW K):=by
 refine bb (F.ok sc_push (fun vs H Q E h=>?_) (fun cdv A outer s H vs Q E hr h=>?_))
 ·obtain⟨x,⟨_,_,rfl,_⟩,_⟩:=h; rfl
 ·obtain⟨⟨⟨ns,d⟩,⟨ls,e⟩⟩,⟨v,u,rfl,⟨p,_,_,rfl,hp,⟨a,rfl,ha⟩,rfl⟩,⟨pt,_,_,rfl,hpt,⟨at',us,rfl,hat,hpr⟩,rfl⟩,ok⟩,k⟩:=h
  have ha:SqL K H a (ns.map V.int):=ha
  have hpr:Paired (rLI K H) us ls:=hpr
  have ok:Ar (ns,d) (ls,e):=ok
  have hul:=aJ hpr
  have hl:ns.length≤1000:=ok.short
  have hsq:ls.length=ns.length:=ok.sq
  refine⟨_,(aj (ay (bq (aa (eK (own:=[("numerators",2)]) rfl sc_push.nd (bQ (aA aG (pv 1) am (fun _ _=>rfl))) (bH (N:=["direction","table","numerators"]) (sc:=aw wu) (by decide +kernel)) (fun _ _ _ _ _=>(a7 (i:=2) sc_push.nd rfl (Or.inl rfl) (hf:=Or.inr rfl))) (fun _ _ _ _ _=>cn) (fun _ _ _ _ _=>(aP vz (hr.mono (by decide)) rfl (aa (pv 2) (aa (aA (ixT (K:=K) rfl) (pv 0) am (fun _ _=>rfl)) ah))))) (aa (aR bv (aA aG (pv 0) am (fun _ _=>rfl)) (aA aG (pv 1) am (fun _ _=>rfl))) ah))))),?_⟩
  refine⟨_,rfl,pt,_,0,_,rfl,rfl,hpt,rfl,at',rfl,⟨_,hat⟩,fun D hD=>?_⟩
  have hD:H D=none:=hD
  refine dD (K:=K) (a:=at') (xs:=us) (fun i H'=>Same H H'∧H' D=some (.lst (((ls.take i).map fun l=>B3 l ns).map V.int)))
   ⟨Same.new hD,af⟩ (fun i H' _ ⟨s1,_⟩=>s1.seq hat) ?_ ?_
  ·rintro i x H' hi ⟨s1,hv⟩
   obtain⟨l,hl',⟨al,rfl,hal⟩⟩:=bY hpr hi
   have hm:=List.mem_of_getElem? hl'
   have hlen:l.length=ns.length:=ok.len l hm
   refine⟨rfl,_,rfl,_,rfl,p,_,0,_,rfl,rfl,s1.tup hp,rfl,?_⟩
   refine(show yF K [.ref al,.ref a] H' _ E0 from bZ (l,ns) ⟨_,_,rfl,⟨al,rfl,s1.seq hal⟩,⟨a,rfl,s1.seq ha⟩,ok.tn l hm,ok.rn,hlen,(by show l.length≤1000; omega)⟩ fun H2 r s2 h2=>?_)
   have h2:r=.int (B3 l ns):=h2
   subst h2
   refine⟨_,s2 D _ hv,?_,(s1.trans s2).upd1 hD,?_⟩
   ·rw [List.length_map,List.length_map,List.length_take]; exact bu (by omega)
   ·rw [af,gF hl',List.map_append]; rfl
  ·rintro H' ⟨s1,hv⟩
   refine⟨_,rfl,p,_,1,_,rfl,rfl,s1.tup hp,rfl,_,rfl,pt,_,1,_,rfl,rfl,s1.tup hpt,rfl,_,_,rfl,rfl,ok.rd.mul ok.td,(by show 2≤sizeLine; decide),fun t ht=>?_⟩
   refine k _ _ (s1.trans (Same.new ht)) ⟨t,_,_,rfl,SqT.of af,⟨D,rfl,SqL.of ?_⟩,rfl⟩
   rw [aq (az hv ht),hv,hul,List.take_length]
   rfl
noncomputable abbrev wr:Stmt:=top 62
theorem sc_turn:aD ["weights","table","turned","k"] ["weights","table"] (aw wr):=⟨rfl,rfl,rfl,by decide +kernel,rfl,by decide +kernel,by decide +kernel⟩
theorem H0 {f:Addr} {fd:FuncData} (T:Tx P K mg base ad) (F:Fun K "turn" "turn" wr f fd) (vz:Fb P w K mg base 40 "dot" ["xs","ys"] (yF K)) (kI:Fb P w K mg base 40 "column_of" ["table","k"] (FN K)):FnOk P w K mg base CX0 41 f fd ["weights","table"] (AT K):=by
 refine bb (F.ok sc_turn (fun vs H Q E h=>?_) (fun cdv A outer s H vs Q E hr h=>?_))
 ·obtain⟨x,⟨_,_,rfl,_⟩,_⟩:=h; rfl
 ·obtain⟨⟨⟨ns,d⟩,⟨ls,e⟩⟩,⟨v,u,rfl,⟨p,_,_,rfl,hp,⟨a,rfl,ha⟩,rfl⟩,⟨pt,_,_,rfl,hpt,⟨at',us,rfl,hat,hpr⟩,rfl⟩,ok⟩,k⟩:=h
  have ha:SqL K H a (ns.map V.int):=ha
  have hpr:Paired (rLI K H) us ls:=hpr
  have ok:Ar (ns,d) (ls,e):=ok
  have hul:=aJ hpr
  have hl:ns.length≤1000:=ok.short
  have hsq:ls.length=ns.length:=ok.sq
  refine⟨_,(ag (F1 (i:=2) (own:=[("k",3)]) rfl sc_turn.nd rfl rfl (HE rfl rfl rfl rfl) (d8 rfl T.cN (aa (ba (iX (K:=K) rfl) rfl T.du PySem.boot_len (aa (aA aG (pv 1) am (fun _ _=>rfl)) ah)) ah)) (bH (N:=["weights","table","turned","k"]) (sc:=aw wr) (by decide +kernel)) (fun _ _ _ _ _=>(a7 (i:=3) sc_turn.nd rfl (Or.inl rfl) (hf:=Or.inr rfl))) (fun _ _ _ _ _=>cn) (fun _ _ _ _ _=>(aP vz (hr.mono (by decide)) rfl (aa (aA (ixT (K:=K) rfl) (pv 0) am (fun _ _=>rfl)) (aa (aP kI (hr.mono (by decide)) rfl (aa (pv 1) (aa (pv 3) ah))) ah)))))
   (aj (ay (bq (aa (pv 2) (aa (aR bv (aA aG (pv 0) am (fun _ _=>rfl)) (aA aG (pv 1) am (fun _ _=>rfl))) ah)))))),?_⟩
  refine⟨_,rfl,pt,_,0,_,rfl,rfl,hpt,rfl,at',_,rfl,.inl hat,_,rfl,(by omega),(by omega),fun D hD=>?_⟩
  have hD:H D=none:=hD
  refine kz (lo:=0) (n:=(us.length:Int).toNat) (fun i H'=>Same H H'∧H' D=some (.lst (((List.range i).map fun k=>B3 ns (ls.map fun l=>l.getD k 0)).map V.int)))
   ⟨Same.new hD,af⟩ ?_ ?_
  ·rintro i H' hi ⟨s1,hv⟩
   have hi:i < us.length:=by omega
   refine⟨rfl,_,rfl,p,_,0,_,rfl,rfl,s1.tup hp,rfl,_,rfl,_,rfl,?_⟩
   refine(show FN K [.ref pt,.int (0+(i:Int))] H' _ E0 from DT ((ls,e),i) hv ⟨_,(by rw [Int.zero_add]),EE _ _ _ _ (s1.hide1 hD) ⟨pt,_,_,rfl,hpt,⟨at',us,rfl,hat,hpr⟩,rfl⟩,(fun l hl'=>by rw [ok.len l hl']; show i < ns.length; omega),(by show ls.length≤1000; omega)⟩ fun H2 r s2 h2=>?_)
   have h2:rLI K (hide (at1 D) H2) r (ls.map fun l=>l.getD i 0):=h2
   obtain⟨ac,rfl,hac⟩:=h2
   have s3:=s1.trans s2
   refine(show yF K [.ref a,.ref ac] H2 _ E0 from DT (ns,ls.map fun l=>l.getD i 0) (s2 D _ hv) ⟨_,_,rfl,⟨a,rfl,(s3.hide1 hD).seq ha⟩,⟨ac,rfl,hac⟩,ok.rn,?_,?_,hl⟩ fun H4 r s4 h4=>?_)
   ·intro y hy
    obtain⟨l,hm,rfl⟩:=List.mem_map.mp hy
    have hlen:l.length=ns.length:=ok.len l hm
    refine ok.tn l hm _ ?_
    rw [List.getD_eq_getElem?_getD,List.getElem?_eq_getElem (by omega)]
    exact List.getElem_mem _
   ·show ns.length=(ls.map _).length
    rw [List.length_map]; omega
   ·have h4:r=.int (B3 ns (ls.map fun l=>l.getD i 0)):=h4
    subst h4
    refine⟨_,s4 D _ (s2 D _ hv),?_,(s3.trans s4).upd1 hD,?_⟩
    ·rw [List.length_map,List.length_map,List.length_range]; exact bu (by omega)
    ·rw [af,List.range_succ,List.map_append,List.map_append]; rfl
  ·rintro H' ⟨s1,hv⟩
   refine⟨_,rfl,_,rfl,p,_,1,_,rfl,rfl,s1.tup hp,rfl,_,rfl,pt,_,1,_,rfl,rfl,s1.tup hpt,rfl,_,_,rfl,rfl,ok.rd.mul ok.td,(by show 2≤sizeLine; decide),fun t ht=>?_⟩
   refine k _ _ (s1.trans (Same.new ht)) ⟨t,_,_,rfl,SqT.of af,⟨D,rfl,SqL.of ?_⟩,rfl⟩
   rw [aq (az hv ht),hv,show(us.length:Int).toNat=ls.length by omega]
   rfl
end
end B
namespace B
open PySem PySem.Spec PyProof.Rows L2
section
variable {P:Program} {w:World} {K:PySem.W.Frag} {mg:Str→Option Value} {base:Heap} {ad:Ad}
noncomputable abbrev nr:Stmt:=top 51
theorem sc_row_of:aD ["fractions","denominator","fraction"] ["fractions"] (aw nr):=⟨rfl,rfl,rfl,by decide +kernel,rfl,by decide +kernel,by decide +kernel⟩
noncomputable def pd:List Rat→Nat
 | []=>1
 | q::r=>q.den*pd r
theorem C7 (q:Rat):∀l:List Rat,pd (l++[q])=pd l*q.den
 | []=>by show q.den*1=1*q.den; omega
 | a::l=>by show a.den*pd (l++[q])=a.den*pd l*q.den; rw [C7 q l,Nat.mul_assoc]
theorem F7:∀l:List Rat,0 < pd l
 | []=>Nat.one_pos
 | q::r=>Nat.mul_pos (Nat.pos_of_ne_zero q.den_nz) (F7 r)
theorem F8 {q:Rat}:∀{l:List Rat},q∈l→q.den∣pd l
 | [],h=>by cases h
 | a::l,h=>by
  rcases List.mem_cons.mp h with e | e
  ·rw [e]; exact Nat.dvd_mul_right ..
  ·exact Nat.dvd_trans (F8 e) (Nat.dvd_mul_left ..)
theorem jb (n:Nat):Builtin.Int.intBits (n:Int)=Vagraa.bits n:=k0 _
theorem C8 {l:List Rat} (h:Sms l):Vagraa.bits (pd l)≤200*l.length+1:=by
 induction l with
 | nil=>decide
 | cons q r ih=>
  have h1:=ih fun x hx=>h x (List.mem_cons_of_mem _ hx)
  have h2:=BM.Ax (h q (List.mem_cons_self ..))
  have h3:=BM.e8 q.den (pd r)
  show Vagraa.bits (q.den*pd r)≤200*(r.length+1)+1
  omega
structure KQ (row:List Int×Int) (qs:List Rat) (M b:Nat):Prop where
 val:BM.val row=qs
 bd:BM.Bd row M b
 len:row.1.length=qs.length
 pos:0 < M
noncomputable def qd (qs:List Rat):List Int×Int:=(qs.map fun q=>q.num*((pd qs:Int) / (q.den:Int)),(pd qs:Int))
theorem FY {qs:List Rat} (h:Sms qs):KQ (qd qs) qs (pd qs) 200:=by
 have hp:=F7 qs
 refine⟨?_,⟨by show(0:Int) < pd qs; omega,by show(pd qs:Int).toNat∣pd qs; exact Nat.dvd_refl _,fun y hy=>?_⟩,List.length_map ..,hp⟩
 ·unfold BM.val qd
  rw [List.map_map]
  conv=>rhs; rw [←List.map_id qs]
  refine List.map_congr_left fun q hq=>?_
  show Rat.divInt (q.num*((pd qs:Int) / (q.den:Int))) (pd qs:Int)=q
  obtain⟨k,hk⟩:=F8 hq
  have hd:=q.den_nz
  have e:(pd qs:Int) / (q.den:Int)=(k:Int):=by rw [hk,Int.natCast_mul]; exact Int.mul_ediv_cancel_left _ (by omega)
  have hk0:(k:Int)≠0:=by intro z; have:k=0:=by omega
                         rw [this] at hk; omega
  rw [e,hk,Int.natCast_mul,BM.jB hk0,Rat.num_divInt_den]
 ·obtain⟨q,hq,rfl⟩:=List.mem_map.mp hy
  show(q.num*((pd qs:Int) / (q.den:Int))).natAbs≤2 ^ 200*(pd qs:Int).toNat
  rw [Int.natAbs_mul]
  refine Nat.mul_le_mul (BM.Fy (h q hq)) ?_
  rw [Int.natAbs_ediv_of_nonneg (by omega)]
  exact Nat.div_le_self _ _
noncomputable def jf (K:PySem.W.Frag):Sp:=bP (fun (x:List Rat) vs H=>∃v,vs=[v]∧b0 K (rFr K) H v x∧Sms x∧x.length≤1000) (fun x r H=>dg K H r (qd x))
theorem En {f:Addr} {fd:FuncData} (T:Tx P K mg base ad) (F:Fun K "row_of" "row_of" nr f fd):FnOk P w K mg base CX0 40 f fd ["fractions"] (jf K):=by
 refine bb (F.ok sc_row_of (fun vs H Q E h=>?_) (fun cdv A outer s H vs Q E hr h=>?_))
 ·obtain⟨x,⟨_,rfl,_⟩,_⟩:=h; rfl
 ·obtain⟨qs,⟨v,rfl,⟨a,us,rfl,ha,hpr⟩,hsm,hl⟩,k⟩:=h
  have hul:=aJ hpr
  have dv:=pY (N:=["fractions","denominator","fraction"]) (E:=E) (H:=H) (outer:=outer) (K:=K) (mg:=mg) (w:=w) T.seer T.tree sc_row_of hr (by decide)
  have ftd:∀i,Ft (pd (qs.take i):Int):=fun i=>by
   have h1:=C8 (l:=qs.take i) fun x hx=>hsm x (List.mem_of_mem_take hx)
   rw [List.length_take] at h1
   refine fo (m:=200001) ?_ (by decide)
   rw [jb]
   omega
  refine⟨_,(ag (aF (i:=1) sc_row_of.nd rfl (Or.inr rfl) am)
   (ag (cV PassesOwn.never rfl (bQ (pv 0)) (a7 (i:=2) sc_row_of.nd rfl (Or.inl rfl) (hf:=Or.inl rfl))
    (aj (aF (i:=1) sc_row_of.nd rfl (Or.inr rfl) (aR bv (pv 1) (aA aG (pv 2) am (fun _ _=>rfl))))))
   (aj (ay (bq (aa (eK (own:=[("fraction",2)]) rfl sc_row_of.nd (bQ (pv 0)) (bH (N:=["fractions","denominator","fraction"]) (sc:=aw nr) (by decide +kernel)) (fun _ _ _ _ _=>(a7 (i:=2) sc_row_of.nd rfl (Or.inl rfl) (hf:=Or.inr rfl))) (fun _ _ _ _ _=>cn) (fun _ _ _ _ _=>(aR bv (aA (ixT (K:=K) rfl) (pv 2) am (fun _ _=>rfl)) (aR (dP dv.blk) (pv 1) (aA (ixT (K:=K) rfl) (pv 2) am (fun _ _=>rfl)))))) (aa (pv 1) ah))))))),?_⟩
  refine⟨_,rfl,a,rfl,⟨_,ha⟩,?_⟩
  refine eZ (K:=K) (a:=a) (xs:=us) (fun i σ H'=>∃v2:Option V,σ=[some (.ref a),some (.int (pd (qs.take i):Nat)),v2]∧H'=H)
   ⟨none,rfl,rfl⟩ (fun i σ H' _ ⟨_,_,e⟩=>by rw [e]; exact ha) ?_ ?_
  ·rintro i x σ H' hi ⟨v2,rfl,rfl⟩
   obtain⟨q,hq,⟨p,rfl,hp⟩⟩:=bY hpr hi
   have hs:Sm q:=hsm.get hq
   refine⟨_,rfl,_,rfl,p,_,1,_,rfl,rfl,hp,rfl,_,_,rfl,rfl,(ftd i).mul hs.ftd,some (.ref p),?_,rfl⟩
   obtain⟨b1,b2⟩:=List.getElem?_eq_some_iff.mp hq
   rw [List.take_succ_eq_append_getElem b1,C7,b2,Int.natCast_mul]
   rfl
  ·rintro σ H' ⟨v2,rfl,rfl⟩
   rw [hul,List.take_length]
   refine⟨_,rfl,a,rfl,⟨_,ha⟩,fun D hD=>?_⟩
   have hD:H' D=none:=hD
   refine dD (K:=K) (a:=a) (xs:=us) (fun i H2=>Same H' H2∧H2 D=some (.lst (((qs.take i).map fun q=>q.num*((pd qs:Int) / (q.den:Int))).map V.int)))
    ⟨Same.new hD,af⟩ (fun i H2 _ ⟨s1,_⟩=>s1.seq ha) ?_ ?_
   ·rintro i x H2 hi ⟨s1,hv⟩
    obtain⟨q,hq,⟨p,rfl,hp⟩⟩:=bY hpr hi
    have hs:Sm q:=hsm.get hq
    have hp2:=s1.tup hp
    refine⟨rfl,_,rfl,p,_,0,_,rfl,rfl,hp2,rfl,_,rfl,_,rfl,p,_,1,_,rfl,rfl,hp2,rfl,_,_,rfl,rfl,BM.DE q,_,_,rfl,rfl,?_,_,hv,?_,s1.upd1 hD,?_⟩
    ·refine Ft.mul hs.ftn (cC (y:=(pd qs:Int)) ?_ (by have:=ftd qs.length; rw [List.take_length] at this; exact this))
     rw [Int.natAbs_ediv_of_nonneg (by omega)]
     exact Nat.div_le_self _ _
    ·rw [List.length_map,List.length_map,List.length_take]; exact bu (by omega)
    ·rw [af,gF hq,List.map_append]; rfl
   ·rintro H2 ⟨s1,hv⟩
    refine⟨_,rfl,(by show 2≤sizeLine; decide),fun t ht=>?_⟩
    refine k _ _ (s1.trans (Same.new ht)) ⟨t,_,_,rfl,SqT.of af,⟨D,rfl,SqL.of ?_⟩,rfl⟩
    rw [aq (az hv ht),hv,hul,List.take_length]
    rfl
noncomputable abbrev rM:Stmt:=top 56
theorem sc_slopes:aD ["line","number","values","kind","over"] ["line","number","values"] (aw rM):=⟨rfl,rfl,rfl,by decide +kernel,rfl,by decide +kernel,by decide +kernel⟩
noncomputable abbrev rSl (K:PySem.W.Frag):Rep (Nat×Rat):=u7 K J1 (rFr K)
noncomputable def rm (K:PySem.W.Frag):Sp:=bP (fun (x:List Int×Nat×List Rat) vs H=>∃v u,vs=[v,.int (x.2.1:Int),u]∧rTI K H v x.1∧b0 K (rFr K) H u x.2.2∧BM.Wf x.1∧BM.Iy (BM.aU x.1)=true∧(∀n,BM.fZ n x.2.1 x.1)∧x.2.1 < x.2.2.length∧Sms x.2.2∧(∀i j,x.1=[5,i,j]→x.2.2.getD j.toNat 0≠0))
 (fun x r H=>b0 K (rSl K) H r (BM.sl x.2.2 (x.2.2.getD x.2.1 0) (BM.aU x.1)))
theorem xf (T:Tx P K mg base ad) (H:Hp):rFr K H (.ref ad.jS) 1:=⟨_,rfl,T.CN.sq H⟩
theorem zG (T:Tx P K mg base ad) (H:Hp):rFr K H (.ref ad.b8) (-1):=⟨_,rfl,T.hZ.sq H⟩
theorem gp {H:Hp} {t:Addr} {x:Int} {v:V} {q:Rat} (h:H t=some (.tup [.int x,v])) (hx:0≤x) (r:rFr K H v q):rSl K H (.ref t) (x.toNat,q):=
 ⟨t,_,_,rfl,SqT.of h,(by show V.int x=.int (x.toNat:Int); rw [show(x.toNat:Int)=x by omega]),r⟩
theorem Em {f:Addr} {fd:FuncData} (T:Tx P K mg base ad) (F:Fun K "slopes" "slopes" rM f fd) (i0:Fb P w K mg base 42 "divide" ["a","b"] (yG K)) (fG:Fb P w K mg base 40 "opposite" ["a"] (yD K)) (fH:Fb P w K mg base 42 "multiply" ["a","b"] (kb K (fun a b=>a*b))):
  FnOk P w K mg base CX0 43 f fd ["line","number","values"] (rm K):=by
 refine bb (F.ok sc_slopes (fun vs H Q E h=>?_) (fun cdv A outer s H vs Q E hr h=>?_))
 ·obtain⟨x,⟨_,_,rfl,_⟩,_⟩:=h; rfl
 ·obtain⟨⟨l,n,vals⟩,⟨v,u,rfl,⟨p,rfl,hq⟩,⟨av,us,rfl,hav,hpv⟩,hw,hop,hk,hn,hsm,hdv⟩,k⟩:=h
  have hsm:Sms vals:=hsm
  have hk:BM.fZ 0 n l:=hk 0
  have hpv:Paired (rFr K H) us vals:=hpv
  have hn:n < vals.length:=hn
  have hop:BM.Iy (BM.aU l)=true:=hop
  have at_v:∀i:Int,0≤i→i < vals.length→∃v q,atI us i=some v∧rFr K H v q∧vals.getD i.toNat 0=q∧BM.wt q≤200:=fun i h0 h1=>by
   obtain⟨q,hq⟩:∃q,vals[i.toNat]?= some q:=⟨_,List.getElem?_eq_getElem (by omega)⟩
   obtain⟨v,e,r⟩:=bt hpv hq
   exact⟨v,q,bW (j:=i.toNat) (by omega) e,r,w9 hq,hsm q (List.mem_of_getElem? hq)⟩
  have sm:∀q:Rat,BM.wt q≤200→Sm q:=fun q z=>Nat.le_trans z (by decide)
  refine⟨_,(ag (aF (i:=3) sc_slopes.nd rfl (Or.inl rfl) (aA aG (pv 0) am (fun _ _=>rfl)))
   (ag (aS (aE bN (pv 3) (aO rfl T.g7) (aK _)) (aj (ay (aN (aa (bq (aa (aA aG (pv 0) am (fun _ _=>rfl)) (aa (kr rfl T.f6) ah))) ah)))) aC)
   (ag (aS (aE bN (pv 3) (aO rfl T.zE) (aK _)) (aj (ay (aN (aa (bq (aa (aA aG (pv 0) am (fun _ _=>rfl)) (aa (kr rfl T.sU) ah))) (aa (bq (aa (aA aG (pv 0) am (fun _ _=>rfl)) (aa (kr rfl T.sU) ah))) ah))))) aC)
   (ag (aS (aE bN (pv 3) (aO rfl T.eY) (aK _)) (aj (ay (aN (aa (bq (aa (aA aG (pv 0) am (fun _ _=>rfl)) (aa (kr rfl T.sU) ah))) (aa (bq (aa (aA aG (pv 0) am (fun _ _=>rfl)) (aa (kr rfl T.f6) ah))) ah))))) aC)
   (ag (aS (aE bN (pv 3) (aO rfl T.i5) (aK _)) (aj (ay (aN (aa (bq (aa (aA aG (pv 0) am (fun _ _=>rfl)) (aa (aA aQ (pv 2) (aA aG (pv 0) am (fun _ _=>rfl)) (fun _ _=>rfl)) ah))) (aa (bq (aa (aA aG (pv 0) am (fun _ _=>rfl)) (aa (aA aQ (pv 2) (aA aG (pv 0) am (fun _ _=>rfl)) (fun _ _=>rfl)) ah))) ah))))) aC)
   (ag (aF (i:=4) sc_slopes.nd rfl (Or.inl rfl) (aP i0 (hr.mono (by decide)) rfl (aa (kr rfl T.sU) (aa (aA aQ (pv 2) (aA aG (pv 0) am (fun _ _=>rfl)) (fun _ _=>rfl)) ah))))
   (aj (ay (aN (aa (bq (aa (aA aG (pv 0) am (fun _ _=>rfl)) (aa (pv 4) ah))) (aa (bq (aa (aA aG (pv 0) am (fun _ _=>rfl)) (aa (aP fG (hr.mono (by decide)) rfl (aa (aP fH (hr.mono (by decide)) rfl (aa (aA aQ (pv 2) (pv 1) (fun _ _=>rfl)) (aa (pv 4) ah))) ah)) ah))) ah))))))))))),?_⟩
  cases hw with
  | input x hx=>cases hop
  | num m d hd=>cases hop
  | neg x hx=>
   refine⟨_,rfl,p,_,0,_,rfl,rfl,hq,rfl,?_⟩
   refine⟨_,rfl,rfl,_,rfl,cp rfl ?_⟩
   refine⟨_,rfl,p,_,1,_,rfl,rfl,hq,rfl,(by show 2≤sizeLine; decide),fun t ht=>⟨(by show 1≤sizeLine; decide),fun L hL=>?_⟩⟩
   have ht:H t=none:=ht
   have s1:=Same.new (o:=.tup [.int x,.ref ad.b8]) ht
   refine k _ _ (s1.trans (Same.new hL)) ⟨L,_,rfl,SqL.of af,.cons ?_ .nil⟩
   exact kv wU mFr _ _ _ _ (Same.new hL) (gp af hx (zG T _))
  | add x y hx hy=>
   refine⟨_,rfl,p,_,0,_,rfl,rfl,hq,rfl,?_⟩
   refine⟨_,rfl,rfl,_,rfl,aM (by decide) ?_⟩
   refine⟨_,rfl,rfl,_,rfl,cp rfl ?_⟩
   refine⟨_,rfl,p,_,1,_,rfl,rfl,hq,rfl,(by show 2≤sizeLine; decide),fun t ht=>?_⟩
   have ht:H t=none:=ht
   have s1:=Same.new (o:=.tup [.int x,.ref ad.jS]) ht
   refine⟨_,rfl,p,_,2,_,rfl,rfl,s1.tup hq,rfl,(by show 2≤sizeLine; decide),fun t2 ht2=>⟨(by show 2≤sizeLine; decide),fun L hL=>?_⟩⟩
   refine k _ _ ((s1.trans (Same.new ht2)).trans (Same.new hL)) ⟨L,_,rfl,SqL.of af,.cons ?_ (.cons ?_ .nil)⟩
   ·exact kv wU mFr _ _ _ _ ((Same.new ht2).trans (Same.new hL)) (gp af hx (xf T _))
   ·exact kv wU mFr _ _ _ _ (Same.new hL) (gp af hy (xf T _))
  | sub x y hx hy=>
   refine⟨_,rfl,p,_,0,_,rfl,rfl,hq,rfl,?_⟩
   refine⟨_,rfl,rfl,_,rfl,aM (by decide) ?_⟩
   refine⟨_,rfl,rfl,_,rfl,aM (by decide) ?_⟩
   refine⟨_,rfl,rfl,_,rfl,cp rfl ?_⟩
   refine⟨_,rfl,p,_,1,_,rfl,rfl,hq,rfl,(by show 2≤sizeLine; decide),fun t ht=>?_⟩
   have ht:H t=none:=ht
   have s1:=Same.new (o:=.tup [.int x,.ref ad.jS]) ht
   refine⟨_,rfl,p,_,2,_,rfl,rfl,s1.tup hq,rfl,(by show 2≤sizeLine; decide),fun t2 ht2=>⟨(by show 2≤sizeLine; decide),fun L hL=>?_⟩⟩
   refine k _ _ ((s1.trans (Same.new ht2)).trans (Same.new hL)) ⟨L,_,rfl,SqL.of af,.cons ?_ (.cons ?_ .nil)⟩
   ·exact kv wU mFr _ _ _ _ ((Same.new ht2).trans (Same.new hL)) (gp af hx (xf T _))
   ·exact kv wU mFr _ _ _ _ (Same.new hL) (gp af hy (zG T _))
  | mul x y hx hy=>
   have hk:x < n∧y < n:=hk
   obtain⟨v,q,ev,rv,eq,sq⟩:=at_v x hx (by omega)
   obtain⟨u,z,eu,ru,ez,sz⟩:=at_v y hy (by omega)
   refine⟨_,rfl,p,_,0,_,rfl,rfl,hq,rfl,?_⟩
   refine⟨_,rfl,rfl,_,rfl,aM (by decide) ?_⟩
   refine⟨_,rfl,rfl,_,rfl,aM (by decide) ?_⟩
   refine⟨_,rfl,rfl,_,rfl,aM (by decide) ?_⟩
   refine⟨_,rfl,rfl,_,rfl,cp rfl ?_⟩
   refine⟨_,rfl,p,_,1,_,rfl,rfl,hq,rfl,_,rfl,_,rfl,p,_,2,_,rfl,rfl,hq,rfl,av,_,_,_,rfl,rfl,hav,eu,(by show 2≤sizeLine; decide),fun t ht=>?_⟩
   have ht:H t=none:=ht
   have s1:=Same.new (o:=.tup [.int x,u]) ht
   refine⟨_,rfl,p,_,2,_,rfl,rfl,s1.tup hq,rfl,_,rfl,_,rfl,p,_,1,_,rfl,rfl,s1.tup hq,rfl,av,_,_,_,rfl,rfl,s1.seq hav,ev,(by show 2≤sizeLine; decide),fun t2 ht2=>⟨(by show 2≤sizeLine; decide),fun L hL=>?_⟩⟩
   refine k _ _ ((s1.trans (Same.new ht2)).trans (Same.new hL)) ?_
   show b0 K (rSl K) _ _ [(x.toNat,vals.getD y.toNat 0),(y.toNat,vals.getD x.toNat 0)]
   rw [eq,ez]
   refine⟨L,_,rfl,SqL.of af,.cons ?_ (.cons ?_ .nil)⟩
   ·exact kv wU mFr _ _ _ _ ((Same.new ht2).trans (Same.new hL)) (gp af hx (mFr _ _ _ _ s1 ru))
   ·exact kv wU mFr _ _ _ _ (Same.new hL) (gp af hy (mFr _ _ _ _ (s1.trans (Same.new ht2)) rv))
  | div x y hx hy=>
   have hk:x < n∧y < n:=hk
   obtain⟨v,q,ev,rv,eq,sq⟩:=at_v x hx (by omega)
   obtain⟨u,z,eu,ru,ez,sz⟩:=at_v y hy (by omega)
   obtain⟨vn,qn,en,rn,eqn,sn⟩:=at_v n (by omega) (by omega)
   have hz:z≠0:=by rw [←ez]; exact hdv x y rfl
   refine⟨_,rfl,p,_,0,_,rfl,rfl,hq,rfl,?_⟩
   refine⟨_,rfl,rfl,_,rfl,aM (by decide) ?_⟩
   refine⟨_,rfl,rfl,_,rfl,aM (by decide) ?_⟩
   refine⟨_,rfl,rfl,_,rfl,aM (by decide) ?_⟩
   refine⟨_,rfl,rfl,_,rfl,aM (by decide) ?_⟩
   refine⟨_,rfl,_,rfl,p,_,2,_,rfl,rfl,hq,rfl,av,_,_,_,rfl,rfl,hav,eu,?_⟩
   refine(show yG K [.ref ad.jS,u] H _ E0 from bZ (1,z) ⟨_,_,rfl,xf T H,ru,(by show BM.wt 1≤10000; decide),sm z sz,hz⟩ fun H1 o s1 ho=>?_)
   have ho:rFr K H1 o (1 / z):=ho
   have wo:BM.wt (1 / z)≤200:=by
    rw [Rat.div_def,Rat.one_mul,BM.Fz hz]; exact sz
   refine⟨_,rfl,p,_,1,_,rfl,rfl,s1.tup hq,rfl,_,rfl,(by show 2≤sizeLine; decide),fun t ht=>?_⟩
   have ht:H1 t=none:=ht
   have s2:=Same.new (o:=.tup [.int x,o]) ht
   refine⟨_,rfl,p,_,2,_,rfl,rfl,s2.tup (s1.tup hq),rfl,_,rfl,_,rfl,av,_,_,_,rfl,rfl,s2.seq (s1.seq hav),en,_,rfl,?_⟩
   refine(show kb K (fun a b=>a*b) [vn,o] _ _ E0 from bZ (qn,1 / z) ⟨_,_,rfl,mFr _ _ _ _ (s1.trans s2) rn,mFr _ _ _ _ s2 ho,sm qn sn,sm _ wo⟩ fun H3 r s3 hr3=>?_)
   have hr3:rFr K H3 r (qn*(1 / z)):=hr3
   refine(show yD K [r] H3 _ E0 from bZ (qn*(1 / z)) ⟨_,rfl,hr3⟩ fun H4 r4 s4 hr4=>?_)
   have hr4:rFr K H4 r4 (-(qn*(1 / z))):=hr4
   refine⟨(by show 2≤sizeLine; decide),fun t2 ht2=>⟨(by show 2≤sizeLine; decide),fun L hL=>?_⟩⟩
   have s34:=s3.trans s4
   refine k _ _ (((s1.trans s2).trans s34).trans ((Same.new ht2).trans (Same.new hL))) ?_
   show b0 K (rSl K) _ _ [(x.toNat,1 / vals.getD y.toNat 0),(y.toNat,-(vals.getD n 0*(1 / vals.getD y.toNat 0)))]
   have eqn:vals.getD n 0=qn:=eqn
   rw [ez,eqn]
   refine⟨L,_,rfl,SqL.of af,.cons ?_ (.cons ?_ .nil)⟩
   ·exact kv wU mFr _ _ _ _ (s34.trans ((Same.new ht2).trans (Same.new hL))) (gp af hx (mFr _ _ _ _ s2 ho))
   ·exact kv wU mFr _ _ _ _ (Same.new hL) (gp af hy (mFr _ _ _ _ (Same.new ht2) hr4))
end
end B
namespace B
open PySem PySem.Spec PyProof.Rows L2
section
variable {P:Program} {w:World} {K:PySem.W.Frag} {mg:Str→Option Value} {base:Heap} {ad:Ad}
theorem qD {vals:List Rat} (h:Sms vals) (i:Nat):BM.wt (vals.getD i 0)≤200:=by
 rw [List.getD_eq_getElem?_getD]
 cases e:vals[i]? with
 | none=>show BM.wt 0≤200; decide
 | some q=>exact h q (List.mem_of_getElem? e)
theorem Lf {vals:List Rat} {n:Nat} {l:List Int} (hw:BM.Wf l) (h:Sms vals) (hd:∀i j,l=[5,i,j]→vals.getD j.toNat 0≠0):∀p∈BM.sl vals (vals.getD n 0) (BM.aU l),BM.wt p.2≤400:=by
 intro p hp
 have w1:BM.wt 1≤400:=by decide
 have w2:BM.wt (-1)≤400:=by decide
 cases hw with
 | input x hx=>cases hp
 | num m d hd=>cases hp
 | neg x hx=>
  have e:p=(x.toNat,-1):=by simpa [BM.aU,BM.sl] using hp
  rw [e]; exact w2
 | add x y hx hy=>
  have e:p=(x.toNat,1)∨p=(y.toNat,1):=by simpa [BM.aU,BM.sl] using hp
  rcases e with e | e <;> (rw [e]; exact w1)
 | sub x y hx hy=>
  have e:p=(x.toNat,1)∨p=(y.toNat,-1):=by simpa [BM.aU,BM.sl] using hp
  rcases e with e | e
  ·rw [e]; exact w1
  ·rw [e]; exact w2
 | mul x y hx hy=>
  have hp:p∈[(x.toNat,vals.getD y.toNat 0),(y.toNat,vals.getD x.toNat 0)]:=hp
  rcases List.mem_cons.mp hp with e | e
  ·rw [e]; exact Nat.le_trans (qD h _) (by decide)
  ·rw [List.mem_singleton.mp e]; exact Nat.le_trans (qD h _) (by decide)
 | div x y hx hy=>
  have hz:=hd x y rfl
  have hi:BM.wt (1 / vals.getD y.toNat 0)≤200:=by
   rw [Rat.div_def,Rat.one_mul,BM.Fz hz]; exact qD h _
  have hp:p∈[(x.toNat,1 / vals.getD y.toNat 0),(y.toNat,-(vals.getD n 0*(1 / vals.getD y.toNat 0)))]:=hp
  rcases List.mem_cons.mp hp with e | e
  ·rw [e]; exact Nat.le_trans hi (by decide)
  ·rw [List.mem_singleton.mp e]
   show BM.wt (-(vals.getD n 0*(1 / vals.getD y.toNat 0)))≤400
   rw [BM.JL]
   have:=BM.JM (vals.getD n 0) (1 / vals.getD y.toNat 0)
   have:=qD h n
   omega
theorem HJ {vals:List Rat} {v:Rat} {l:List Int} (hw:BM.Wf l):∀p∈BM.sl vals v (BM.aU l),p.1∈(BM.aU l).uses:=by
 intro p hp
 cases hw with
 | input x hx=>cases hp
 | num m d hd=>cases hp
 | neg x hx=>
  have e:p=(x.toNat,-1):=by simpa [BM.aU,BM.sl] using hp
  rw [e]; simp [BM.aU,VagraLine.Line.uses]
 | _ x y hx hy=>
  rcases List.mem_cons.mp hp with e | e
  ·rw [e]; simp [BM.aU,VagraLine.Line.uses]
  ·rw [List.mem_singleton.mp e]; simp [BM.aU,VagraLine.Line.uses]
theorem sH {inp n:Nat} {l:List Int} (hw:BM.Wf l) (hk:BM.fZ inp n l):∀i∈(BM.aU l).uses,i < n:=by
 intro i hi
 have h:=(BM.sB (inputs:=inp) (n:=n) hw).mpr hk
 rw [Bool.and_eq_true] at h
 exact of_decide_eq_true (List.all_eq_true.mp h.1 i hi)
noncomputable def sd:List (Nat×Rat)→Nat
 | []=>1
 | p::r=>p.2.den*sd r
theorem CU (q:Nat×Rat):∀l:List (Nat×Rat),sd (l++[q])=sd l*q.2.den
 | []=>by show q.2.den*1=1*q.2.den; omega
 | a::l=>by show a.2.den*sd (l++[q])=a.2.den*sd l*q.2.den; rw [CU q l,Nat.mul_assoc]
theorem wp:∀l:List (Nat×Rat),0 < sd l
 | []=>Nat.one_pos
 | q::r=>Nat.mul_pos (Nat.pos_of_ne_zero q.2.den_nz) (wp r)
theorem CV {l:List (Nat×Rat)} (h:∀p∈l,BM.wt p.2≤400):Vagraa.bits (sd l)≤400*l.length+1:=by
 induction l with
 | nil=>decide
 | cons q r ih=>
  have h1:=ih fun x hx=>h x (List.mem_cons_of_mem _ hx)
  have h2:=BM.Ax (h q (List.mem_cons_self ..))
  have h3:=BM.e8 q.2.den (sd r)
  show Vagraa.bits (q.2.den*sd r)≤400*(r.length+1)+1
  omega
theorem JX (vals:List Rat) (v:Rat) (l:VagraLine.Line):(BM.sl vals v l).length≤2:=by
 cases l <;> simp [BM.sl]
structure Ma where
 n:Nat
 cs:List (List Int)
 vals:List Rat
 rws:List (List Int×Int)
 parts:Nat
 M:Nat
 b:Nat
structure L9 (x:Ma):Prop where
 wf:∀l∈x.cs,BM.Wf l
 kn:BM.Known (x.parts+1) 0 x.cs
 nl:x.n < x.cs.length
 rl:x.rws.length=x.n
 vl:x.vals.length=x.cs.length
 sm:Sms x.vals
 dv:∀i j,x.cs[x.n]?= some [5,i,j]→x.vals.getD j.toNat 0≠0
 bd:∀r∈x.rws,BM.Bd r x.M x.b∧r.1.length=x.parts
 pos:0 < x.M
 szM:Vagraa.bits x.M≤10000000
 szb:x.b≤10000000
 pl:x.parts≤1000
noncomputable def rA (K:PySem.W.Frag):Sp:=bP (fun (x:Ma) vs H=>∃v1 v2 v3,vs=[.int (x.n:Int),v1,v2,v3,.int (x.parts:Int)]∧b0 K (rTI K) H v1 x.cs∧b0 K (rFr K) H v2 x.vals∧b0 K (dg K) H v3 x.rws∧L9 x)
 (fun x r H=>∃row q,dg K H r row∧BM.val row=BM.im x.parts x.vals (x.rws.map BM.val) (x.vals.getD x.n 0) (BM.aU (x.cs.getD x.n []))∧BM.Bd row (x.M*q) (x.b+502)∧row.1.length=x.parts∧0 < q∧Vagraa.bits q≤1000)
noncomputable abbrev gx:Stmt:=top 57
theorem sc_change_row:aD ["number","lines","values","rows","parts","line","row","earlier","slope","k"] ["number","lines","values","rows","parts"] (aw gx):=⟨rfl,rfl,rfl,by decide +kernel,rfl,by decide +kernel,by decide +kernel⟩
theorem B4 (x:Int):Rat.divInt x 1=(x:Rat):=Rat.num_divInt_den (x:Rat)
theorem Aw (k:Nat):(List.replicate k [V.int 0]).flatten=(List.replicate k (0:Int)).map V.int:=by
 induction k with
 | zero=>rfl
 | succ n ih=>rw [List.replicate_succ,List.flatten_cons,ih,List.replicate_succ]; rfl
theorem uU (k:Nat):BM.val (List.replicate k 0,1)=List.replicate k 0:=by
 unfold BM.val
 rw [List.map_replicate]
 rfl
theorem kL {rws:List (List Int×Int)} {i:Nat} {r:List Int×Int} (h:rws[i]?= some r):(rws.map BM.val).getD i []=BM.val r:=by
 rw [List.getD_eq_getElem?_getD,List.getElem?_map,h]; rfl
theorem uj {f:Addr} {fd:FuncData} (T:Tx P K mg base ad) (F:Fun K "change_row" "change_row" gx f fd) (sO:Fb P w K mg base 43 "slopes" ["line","number","values"] (rm K)) (mR:Fb P w K mg base 42 "add_rows" ["a","b"] (ot K)) (w6:Fb P w K mg base 40 "scale" ["row","fraction"] (wc K)):
  FnOk P w K mg base CX0 44 f fd ["number","lines","values","rows","parts"] (rA K):=by
 refine bb (F.ok sc_change_row (fun vs H Q E h=>?_) (fun cdv A outer s H vs Q E hr h=>?_))
 ·obtain⟨x,⟨_,_,_,rfl,_⟩,_⟩:=h; rfl
 ·obtain⟨⟨n,cs,vals,rws,parts,M,b⟩,⟨v1,v2,v3,rfl,⟨ac,uc,rfl,hac,hpc⟩,hvals,⟨ar,ur,rfl,har,hpr⟩,ok⟩,k⟩:=h
  have hpc:Paired (rTI K H) uc cs:=hpc
  have hpr:Paired (dg K H) ur rws:=hpr
  have hvals:b0 K (rFr K) H v2 vals:=hvals
  have nl:n < cs.length:=ok.nl
  have rl:rws.length=n:=ok.rl
  have vl:vals.length=cs.length:=ok.vl
  have pl:parts≤1000:=ok.pl
  have sm:Sms vals:=ok.sm
  have bd:∀r∈rws,BM.Bd r M b∧r.1.length=parts:=ok.bd
  have szM:Vagraa.bits M≤10000000:=ok.szM
  have szb:b≤10000000:=ok.szb
  have pos:0 < M:=ok.pos
  obtain⟨l,hl⟩:∃l,cs[n]?= some l:=⟨_,List.getElem?_eq_getElem nl⟩
  have hgl:cs.getD n []=l:=by rw [List.getD_eq_getElem?_getD,hl]; rfl
  have hw:BM.Wf l:=ok.wf l (List.mem_of_getElem? hl)
  have hkn:BM.fZ (parts+1) n l:=by have:=ok.kn.at hl; rw [Nat.zero_add] at this; exact this
  obtain⟨vline,hvl,⟨p,rfl,hp⟩⟩:=bt hpc hl
  have k:∀H' r row q,Same H H'→dg K H' r row→BM.val row=BM.im parts vals (rws.map BM.val) (vals.getD n 0) (BM.aU l)→BM.Bd row (M*q) (b+502)→row.1.length=parts→0 < q→Vagraa.bits q≤1000→Q r H':=fun H' r row q s' h1 h2 h3 h4 h5 h6=>k H' r s' ⟨row,q,h1,by rw [hgl]; exact h2,h3,h4,h5,h6⟩
  refine⟨_,(ag (aF (i:=5) sc_change_row.nd rfl (Or.inr rfl) (aA aQ (pv 1) (pv 0) (fun _ _=>rfl)))
   (ag (aS (aE bN (aA aG (pv 5) am (fun _ _=>rfl)) (aO rfl T.lO) (aK _)) (aj (ay (bq (aa (eK (own:=[("k",9)]) rfl sc_change_row.nd (d8 rfl T.cN (aa (pv 4) ah)) (bH (N:=["number","lines","values","rows","parts","line","row","earlier","slope","k"]) (sc:=aw gx) (by decide +kernel)) (fun _ _ _ _ _=>(a7 (i:=9) sc_change_row.nd rfl (Or.inl rfl) (hf:=Or.inr rfl))) (fun _ _ _ _ _=>cn) (fun _ _ _ _ _=>(iW (aE bN (pv 9) (aA (ixT (K:=K) rfl) (pv 5) am (fun _ _=>rfl)) (aK _)) am am))) (aa am ah))))) aC)
   (ag (aF (i:=6) sc_change_row.nd rfl (Or.inl rfl) (bq (aa (aR wC (aN (aa am ah)) (pv 4)) (aa am ah))))
   (ag (aS (aE bN (aA aG (pv 5) am (fun _ _=>rfl)) (aO rfl T.d6) (aK _)) (aj (ay (pv 6))) aC)
   (ag (cV PassesOwn.never rfl (bQ (aP sO (hr.mono (by decide)) rfl (aa (pv 5) (aa (pv 0) (aa (pv 2) ah))))) (rX rfl (cP (a7 (i:=7) sc_change_row.nd rfl (Or.inl rfl) (hf:=Or.inl rfl)) (cP (a7 (i:=8) sc_change_row.nd rfl (Or.inl rfl) (hf:=Or.inl rfl)) lE)))
    (aj (aF (i:=6) sc_change_row.nd rfl (Or.inl rfl) (aP mR (hr.mono (by decide)) rfl (aa (pv 6) (aa (aP w6 (hr.mono (by decide)) rfl (aa (aA aQ (pv 3) (pv 7) (fun _ _=>rfl)) (aa (pv 8) ah))) ah))))))
   (aj (ay (pv 6)))))))),?_⟩
  refine⟨_,rfl,_,rfl,ac,_,_,_,rfl,rfl,hac,bW rfl hvl,?_⟩
  have hop:∀x:Int,l.head?= some x→atI (l.map V.int) 0=some (.int x):=fun x hx=>by
   match l,hx with
   | y::r,hx=>
    have e:y=x:=Option.some.inj hx
    subst e
    exact bW (j:=0) rfl rfl
  by_cases hin:∃j,l=[0,j]
  ·
   obtain⟨j,rfl⟩:=hin
   have hj0:0≤j:=by cases hw; assumption
   refine⟨_,rfl,p,_,0,_,rfl,rfl,hp,rfl,rfl,_,rfl,cp rfl ?_⟩
   refine⟨_,rfl,_,rfl,(by show -(2 ^ 62)≤(parts:Int); omega),(by show(parts:Int) < 2 ^ 62; omega),fun D hD=>?_⟩
   have hD:H D=none:=hD
   refine kz (lo:=0) (n:=(parts:Int).toNat) (fun i H'=>Same H H'∧H' D=some (.lst (((List.range i).map fun (k:Nat)=>if (k:Int)=j then(1:Int) else 0).map V.int)))
    ⟨Same.new hD,af⟩ ?_ ?_
   ·rintro i H' hi ⟨s1,hv⟩
    have fin:∀z:Int,z=(if (i:Int)=j then(1:Int) else 0)→∃acc,H' D=some (.lst acc)∧acc.length < sizeLine∧Same H (upd H' D (.lst (acc++[.int z])))∧upd H' D (.lst (acc++[.int z])) D=some (.lst (((List.range (i+1)).map fun (k:Nat)=>if (k:Int)=j then(1:Int) else 0).map V.int)):=fun z hz=>by
     refine⟨_,hv,?_,s1.upd1 hD,?_⟩
     ·rw [List.length_map,List.length_map,List.length_range]; exact bu (by omega)
     ·rw [af,List.range_succ,List.map_append,List.map_append,hz]; rfl
    refine⟨rfl,_,rfl,_,rfl,p,_,1,_,rfl,rfl,s1.tup hp,rfl,rfl,_,rfl,dH (fun h=>?_) fun h=>?_⟩
    ·injection h with h
     exact fin 1 (by rw [if_pos (by omega)])
    ·exact fin 0 (by rw [if_neg (fun z=>h (by rw [←z]; exact congrArg V.int (by omega)))])
   ·rintro H' ⟨s1,hv⟩
    refine⟨(by show 2≤sizeLine; decide),fun t ht=>?_⟩
    have hv:H' D=some (.lst (((List.range parts).map fun (k:Nat)=>if (k:Int)=j then(1:Int) else 0).map V.int)):=hv
    refine k _ _ ((List.range parts).map fun (k:Nat)=>if (k:Int)=j then(1:Int) else 0,1) 1 (s1.trans (Same.new ht)) ⟨t,_,_,rfl,SqT.of af,⟨D,rfl,SqL.of (by rw [aq (az hv ht)]; exact hv)⟩,rfl⟩ ?_ ⟨by show(0:Int) < 1; decide,Nat.one_dvd _,fun y hy=>?_⟩ (by show(List.map _ _).length=_; rw [List.length_map,List.length_range]) (by decide) (by decide)
    ·unfold BM.val BM.im
     rw [List.map_map]
     refine List.map_congr_left fun k hk=>?_
     have hk:=List.mem_range.mp hk
     show Rat.divInt (if (k:Int)=j then(1:Int) else 0) 1=(BM.eI (parts+1) k).getD j.toNat 0
     rw [B4,BM.rQ]
     by_cases e:(k:Int)=j
     ·rw [if_pos e,if_pos ⟨by omega,by omega⟩]; rfl
     ·rw [if_neg e,if_neg (fun z=>e (by omega))]; rfl
    ·obtain⟨k,_,rfl⟩:=List.mem_map.mp hy
     show(if (k:Int)=j then(1:Int) else 0).natAbs≤2 ^ (b+502)*1
     have:=Nat.two_pow_pos (b+502)
     split
     ·show 1≤_; omega
     ·exact Nat.zero_le _
  ·
   obtain⟨x0,hx0,hne0⟩:∃x0:Int,l.head?= some x0∧x0≠0:=by
    cases hw with
    | input x hx=>exact absurd ⟨_,rfl⟩ hin
    | num m d hd=>exact⟨1,rfl,by decide⟩
    | add x y hx hy=>exact⟨2,rfl,by decide⟩
    | sub x y hx hy=>exact⟨3,rfl,by decide⟩
    | mul x y hx hy=>exact⟨4,rfl,by decide⟩
    | div x y hx hy=>exact⟨5,rfl,by decide⟩
    | neg x hx=>exact⟨6,rfl,by decide⟩
   refine⟨_,rfl,p,_,0,_,rfl,rfl,hp,hop x0 hx0,rfl,_,rfl,aM (fun z=>hne0 (by injection z)) ?_⟩
   refine⟨(by show 1≤sizeLine; decide),fun z hz=>?_⟩
   have hz:H z=none:=hz
   have sz:=Same.new (o:=.lst [.int 0]) hz
   refine⟨_,rfl,z,_,_,rfl,rfl,af,(by show -(2 ^ 63)≤(parts:Int); omega),(by show(parts:Int) < 2 ^ 63; omega),?_,fun D hD=>?_⟩
   ·show 1*(parts:Int).toNat≤sizeLine
    rw [Nat.one_mul]
    exact Nat.le_of_lt (bu (by omega))
   have sD:=sz.trans (Same.new (o:=.lst (List.replicate (parts:Int).toNat [V.int 0]).flatten) hD)
   refine⟨(by show 2≤sizeLine; decide),fun t ht=>?_⟩
   have st:=sD.trans (Same.new (o:=.tup [.ref D,.int 1]) ht)
   have hrow0:dg K (upd (upd (upd H z (.lst [.int 0])) D (.lst (List.replicate (parts:Int).toNat [V.int 0]).flatten)) t (.tup [.ref D,.int 1])) (.ref t) (List.replicate parts 0,1):=by
    refine⟨t,_,_,rfl,SqT.of af,⟨D,rfl,SqL.of ?_⟩,rfl⟩
    rw [Same.new ht D _ af,Aw]
    rfl
   have bd0:∀(N c:Nat),0 < N→BM.Bd (List.replicate parts 0,1) N c:=fun N c hN=>⟨by show(0:Int) < 1; decide,Nat.one_dvd _,fun y hy=>by rw [(List.mem_replicate.mp hy).2]; exact Nat.zero_le _⟩
   refine⟨_,rfl,p,_,0,_,rfl,rfl,st.tup hp,hop x0 hx0,rfl,_,rfl,dH (fun h=>?_) fun h=>?_⟩
   ·
    have e:∃m d,l=[1,m,d]:=by
     injection h with h
     subst h
     cases hw with
     | input x hx=>exact absurd ⟨_,rfl⟩ hin
     | num m d hd=>exact⟨m,d,rfl⟩
     | add x y hx hy=>cases hx0
     | sub x y hx hy=>cases hx0
     | mul x y hx hy=>cases hx0
     | div x y hx hy=>cases hx0
     | neg x hx=>cases hx0
    obtain⟨m,d,rfl⟩:=e
    refine⟨_,rfl,k _ _ _ 1 st hrow0 ?_ (bd0 _ _ (by omega)) (by show(List.replicate parts (0:Int)).length=_; rw [List.length_replicate]) (by decide) (by decide)⟩
    rw [uU]
    refine BM.bK (List.length_replicate ..) fun k hk=>?_
    rw [BM.lB]
    rfl
   ·
    have hop':BM.Iy (BM.aU l)=true:=by
     cases hw with
     | input x hx=>exact absurd ⟨_,rfl⟩ hin
     | num m d hd=>
      have e:x0=1:=(Option.some.inj hx0).symm
      exact absurd (by rw [e]) h
     | _=>rfl
    have hdv:∀i j,l=[5,i,j]→vals.getD j.toNat 0≠0:=fun i j e=>ok.dv i j (by rw [←e]; exact hl)
    have hkn0:∀m,BM.fZ m n l:=fun m=>by
     cases hw with
     | input x hx=>exact absurd ⟨_,rfl⟩ hin
     | _=>exact hkn
    refine⟨_,rfl,_,rfl,_,rfl,?_⟩
    refine(show rm K [.ref p,.int (n:Int),v2] _ _ E0 from bZ (l,n,vals) ⟨_,_,rfl,⟨p,rfl,st.tup hp⟩,gU mFr _ _ _ _ st hvals,hw,hop',hkn0,(by show n < vals.length; omega),sm,hdv⟩ fun H1 r1 s1 h1=>?_)
    obtain⟨asl,us,rfl,hasl,hps⟩:=h1
    have hps:Paired (rSl K H1) us (BM.sl vals (vals.getD n 0) (BM.aU l)):=hps
    have hul:=aJ hps
    obtain⟨S,hS⟩:∃S,S=BM.sl vals (vals.getD n 0) (BM.aU l):=⟨_,rfl⟩
    rw [←hS] at hps hul
    have hSw:∀q∈S,BM.wt q.2≤400:=by rw [hS]; exact Lf hw sm hdv
    have hSu:∀q∈S,q.1 < n:=fun q hq=>sH hw hkn q.1 (HJ hw q (by rw [←hS]; exact hq))
    have hSl:S.length≤2:=by rw [hS]; exact JX ..
    have s01:=st.trans s1
    refine⟨asl,rfl,⟨us,hasl⟩,?_⟩
    refine eZ (K:=K) (a:=asl) (xs:=us) (fun i σ H'=>∃(v6:V) (v7 v8 v9:Option V) (row:List Int×Int),σ=[some (.int n),some (.ref ac),some v2,some (.ref ar),some (.int parts),some (.ref p),some v6,v7,v8,v9]∧Same H1 H'∧dg K H' v6 row∧BM.val row=(S.take i).foldl (BM.lW (rws.map BM.val)) (List.replicate parts 0)∧BM.Bd row (M*sd (S.take i)) (b+400+i)∧row.1.length=parts)
     ⟨.ref t,none,none,none,_,rfl,Same.refl _,Gn _ _ _ _ s1 hrow0,by rw [uU]; rfl,bd0 _ _ (by show 0 < M*1; omega),List.length_replicate ..⟩ (fun i σ H' _ ⟨_,_,_,_,_,_,hs,_⟩=>hs.seq hasl) ?_ ?_
    ·rintro i x σ H' hi ⟨v6,v7,v8,v9,row,rfl,hs,hrow,hval,hbd,hlen⟩
     obtain⟨⟨e,q⟩,he,⟨tq,_,vq,rfl,htq,rfl,hq⟩⟩:=bY hps hi
     have hi2:i < S.length:=(List.getElem?_eq_some_iff.mp he).1
     have hmem:=List.mem_of_getElem? he
     have hwq:BM.wt q≤400:=hSw _ hmem
     have heu:e < n:=hSu _ hmem
     obtain⟨re,hre⟩:∃re,rws[e]?= some re:=⟨_,List.getElem?_eq_getElem (by omega)⟩
     obtain⟨ve,hve,hrr⟩:=bt hpr hre
     obtain⟨bre,lre⟩:=bd re (List.mem_of_getElem? hre)
     have hs2:=s01.trans hs
     have hrr2:=Gn _ _ _ _ hs2 hrr
     have smq:Sm q:=Nat.le_trans hwq (by decide)
     have zM:Sz M b:=⟨pos,by rw [jb]; omega,by omega⟩
     refine⟨tq,_,rfl,hs.tup htq,rfl,_,_,rfl,_,_,rfl,rfl,?_⟩
     refine⟨_,rfl,_,rfl,_,rfl,ar,_,_,_,rfl,rfl,hs2.seq har,bW rfl hve,_,rfl,?_⟩
     refine(show wc K [ve,vq] H' _ E0 from bZ (re,q) ⟨_,_,rfl,hrr2,mFr _ _ _ _ hs hq,(fun y hy=>fo (px bre zM hy) (by decide)),fo (pA bre zM) (by decide),smq,(by show re.1.length≤1000; omega)⟩ fun H2 r2 s2 h2=>?_)
     have h2:dg K H2 r2 (BM.ke re q):=h2
     have hsd:=CV (l:=S.take i) fun y hy=>hSw y (List.mem_of_mem_take hy)
     have hlt:(S.take i).length≤2:=by rw [List.length_take]; omega
     have hsdp:=wp (S.take i)
     have hqd:Vagraa.bits q.den≤400:=BM.Ax hwq
     have eN:sd (S.take (i+1))=sd (S.take i)*q.den:=by
      obtain⟨b1,b2⟩:=List.getElem?_eq_some_iff.mp he
      rw [List.take_succ_eq_append_getElem b1,CU,b2]
     have bs:=BM.Ee bre (BM.Fy hwq)
     have bs':BM.Bd (BM.ke re q) (M*sd (S.take (i+1))) (b+400+i):=bs.mono (by rw [eN]; exact⟨sd (S.take i),by rw [Nat.mul_comm (sd (S.take i)),Nat.mul_assoc]⟩) (by omega)
     have br':BM.Bd row (M*sd (S.take (i+1))) (b+400+i):=hbd.mono (by rw [eN]; exact⟨q.den,by rw [Nat.mul_assoc]⟩) (Nat.le_refl _)
     have hmb:=BM.e8 M (sd (S.take i)*q.den)
     have hmb2:=BM.e8 (sd (S.take i)) q.den
     have zz:Sz (M*sd (S.take (i+1))) (b+400+i):=⟨Nat.mul_pos pos (wp _),by rw [jb,eN]; omega,by omega⟩
     refine(show ot K [v6,r2] H2 _ E0 from bZ (row,BM.ke re q,M*sd (S.take (i+1)),b+400+i) ⟨_,_,rfl,Gn _ _ _ _ s2 hrow,h2,br',bs',zz,(by show row.1.length=(List.map _ _).length; rw [List.length_map]; omega),(by show row.1.length≤1000; omega)⟩ fun H3 r3 s3 h3=>?_)
     obtain⟨row3,hr3,hv3,hb3,hl3⟩:=h3
     refine⟨r3,_,_,_,row3,rfl,(hs.trans s2).trans s3,hr3,?_,hb3,by rw [hl3]; exact hlen⟩
     rw [hv3]
     show List.zipWith (·+ ·) (BM.val row) (BM.val (BM.ke re q))=_
     obtain⟨b1,b2⟩:=List.getElem?_eq_some_iff.mp he
     rw [List.take_succ_eq_append_getElem b1,List.foldl_append,List.foldl_cons,List.foldl_nil,b2,←hval,BM.Bj]
     unfold BM.lW
     rw [kL hre]
    ·rintro σ H' ⟨v6,v7,v8,v9,row,rfl,hs,hrow,hval,hbd,hlen⟩
     rw [hul,List.take_length] at hval hbd
     have hsd:=CV (l:=S) hSw
     refine⟨_,rfl,k _ _ row (sd S) (s01.trans hs) hrow ?_ (hbd.mono (Nat.dvd_refl _) (by omega)) hlen (wp S) (by omega)⟩
     rw [hval,hS]
     refine BM.Jg hop' fun i hi=>?_
     have hin':=sH hw hkn i hi
     obtain⟨re,hre⟩:∃re,rws[i]?= some re:=⟨_,List.getElem?_eq_getElem (by omega)⟩
     rw [kL hre]
     show(List.map _ _).length=_
     rw [List.length_map]
     exact(bd re (List.mem_of_getElem? hre)).2
end
end B
namespace B
open PySem PySem.Spec PyProof.Rows L2
section
variable {P:Program} {w:World} {K:PySem.W.Frag} {mg:Str→Option Value} {base:Heap} {ad:Ad}
structure Ch where
 parts:Nat
 lines:List (List Int)
 outs:List Nat
structure pK (c:Ch):Prop where
 p1:1≤c.parts
 p4:c.parts≤4
 wf:∀l∈c.lines,BM.Wf l
 kn:BM.Known (c.parts+1) 0 c.lines
 ll:c.lines.length≤30
 ol:c.outs.length=c.parts
 ok:∀o∈c.outs,o < c.lines.length
noncomputable def jQ (c:Ch):List Int:=c.outs.map fun (n:Nat)=>(n:Int)
noncomputable def chF (v1 v2 v3:V):List (Str×V):=bD "outs" v3 (bD "lines" v2 (bD "parts" v1 []))
theorem lR (v1 v2 v3:V):(chF v1 v2 v3).lookup ("parts": Str)=some v1:=by
 unfold chF
 rw [cH,if_neg (by decide +kernel),cH,if_neg (by decide +kernel),cH,if_pos rfl]
theorem pk (v1 v2 v3:V):(chF v1 v2 v3).lookup ("lines": Str)=some v2:=by
 unfold chF
 rw [cH,if_neg (by decide +kernel),cH,if_pos rfl]
theorem tI (v1 v2 v3:V):(chF v1 v2 v3).lookup ("outs": Str)=some v3:=by
 unfold chF
 rw [cH,if_pos rfl]
noncomputable def rChain (K:PySem.W.Frag) (C:Addr):Rep Ch:=fun H v c=>∃p dx vl vo,v=.ref p∧H p=some (.ins C dx (chF (.int (c.parts:Int)) vl vo))∧b0 K (rTI K) H vl c.lines∧rLI K H vo (jQ c)
theorem Gp {C:Addr}:lY (rChain K C):=fun _ _ _ _ s ⟨p,dx,vl,vo,e,h,a,b⟩=>⟨p,dx,vl,vo,e,s _ _ h,gU mTI _ _ _ _ s a,mLI _ _ _ _ s b⟩
theorem IA {H:Hp} {a l:Addr} {ns:List Int} {vv:List V} (h:SqL K H a (ns.map V.int)) (hl:H l=some (.lst vv)) (hr:∀v∈vv,∃p,v=.ref p) (hn:ns≠[]) {o:HO}:SqL K (upd H l o) a (ns.map V.int):=by
 obtain⟨n,r,rfl⟩:=List.exists_cons_of_ne_nil hn
 rcases h with(h | ⟨u,h⟩) | h
 ·refine .inl (.inl ?_)
  rw [aq ?_]
  ·exact h
  ·intro z
   rw [z,hl] at h
   have e:vv=(n::r).map V.int:=by injection h with h; injection h
   obtain⟨p,hp⟩:=hr (.int n) (by rw [e]; exact List.mem_cons_self ..)
   cases hp
 ·exact .inl (.inr ⟨u,by rw [aq (zq h hl (by intro z; cases z))]; exact h⟩)
 ·exact .inr h
theorem yY {H:Hp} {l:Addr} {v:V} {row:List Int×Int} {vv:List V} {o:HO} (h:dg K H v row) (hl:H l=some (.lst vv)) (hr:∀v∈vv,∃p,v=.ref p) (hn:row.1≠[]):dg K (upd H l o) v row:=by
 obtain⟨p,x,y,rfl,hp,⟨a,rfl,ha⟩,hy⟩:=h
 exact⟨p,_,y,rfl,qF hp hl,⟨a,rfl,IA ha hl hr hn⟩,hy⟩
theorem jP {H:Hp} {l:Addr} {vv:List V} {o:HO} (hl:H l=some (.lst vv)) (hr:∀v∈vv,∃p,v=.ref p):∀{us:List V} {rows:List (List Int×Int)},Paired (dg K H) us rows→(∀r∈rows,r.1≠[])→Paired (dg K (upd H l o)) us rows
 | _,_,.nil,_=>.nil
 | _,_,.cons r t,h=>.cons (yY r hl hr (h _ (List.mem_cons_self ..))) (jP hl hr t fun x hx=>h x (List.mem_cons_of_mem _ hx))
theorem pQ {H:Hp}:∀{us:List V} {rows:List (List Int×Int)},Paired (dg K H) us rows→∀v∈us,∃p,v=.ref p
 | _,_,.nil,v,hv=>nomatch hv
 | _,_,.cons r t,v,hv=>by
  rcases List.mem_cons.mp hv with e | e
  ·obtain⟨p,x,y,q,_⟩:=r
   exact⟨p,e.trans q⟩
  ·exact pQ t v e
noncomputable abbrev gu:Stmt:=top 58
theorem sc_step_table:aD ["chain","values","rows","number","denominator","out"] ["chain","values"] (aw gu):=⟨rfl,rfl,rfl,by decide +kernel,rfl,by decide +kernel,by decide +kernel⟩
structure CF (c:Ch) (vs:List Rat):Prop where
 len:vs.length=c.lines.length
 sm:Sms vs
 dv:∀(n:Nat) (i j:Int),c.lines[n]?= some [5,i,j]→vs.getD j.toNat 0≠0
noncomputable def a6 (c:Ch):VagraLine.Code:=c.lines.map BM.aU
noncomputable def wa (K:PySem.W.Frag) (C:Addr):Sp:=bP (fun (x:Ch×List Rat) vs H=>∃v u,vs=[v,u]∧rChain K C H v x.1∧b0 K (rFr K) H u x.2∧pK x.1∧CF x.1 x.2)
 (fun x r H=>∃t M,ud K H r t∧BM.TabFor t (a6 x.1) x.1.outs x.1.parts x.2 M 15060∧Vagraa.bits M≤30001)
theorem wW {a b:Int} {M:Nat} (ha:0 < a) (hb:0 < b) (h:a.toNat∣M) (h':b.toNat∣M):((Int.lcm a b:Nat):Int).toNat∣M:=pV ha hb h h'
theorem pN (parts:Nat) (vs:List Rat) (l:VagraLine.Line):∀(c:VagraLine.Code) (rows:List (List Rat)),BM.fD parts vs rows (c++[l])=BM.fD parts vs rows c++[BM.im parts vs (BM.fD parts vs rows c) (vs.getD (BM.fD parts vs rows c).length 0) l]
 | [],rows=>rfl
 | x::r,rows=>by
  show BM.fD parts vs (rows++[_]) (r++[l])=BM.fD parts vs (rows++[_]) r++_
  exact pN parts vs l r _
theorem ug {f:Addr} {fd:FuncData} (T:Tx P K mg base ad) (F:Fun K "step_table" "step_table" gu f fd) (jw:Fb P w K mg base 44 "change_row" ["number","lines","values","rows","parts"] (rA K)) (ca:Fb P w K mg base 41 "least_multiple" ["a","b"] FL) (eQ:Fb P w K mg base 40 "numerators_over" ["denominator","row"] (AX K)):
  FnOk P w K mg base CX0 45 f fd ["chain","values"] (wa K (ad.cls "Chain")):=by
 refine bb (F.ok sc_step_table (fun vs H Q E h=>?_) (fun cdv A outer s H vs Q E hr h=>?_))
 ·obtain⟨x,⟨_,_,rfl,_⟩,_⟩:=h; rfl
 ·obtain⟨⟨c,vals⟩,⟨v,u,rfl,⟨p,dx,vl,vo,rfl,hp,hlines,⟨ao,rfl,hao⟩⟩,hvals,ok,vok⟩,k⟩:=h
  have ok:pK c:=ok
  have vok:CF c vals:=vok
  have hvals:b0 K (rFr K) H u vals:=hvals
  obtain⟨al,ul,rfl,hal,hpl⟩:=hlines
  have hpl:Paired (rTI K H) ul c.lines:=hpl
  have hul:=aJ hpl
  have hp:H p=some (.ins (ad.cls "Chain") dx (chF (.int (c.parts:Int)) (.ref al) (.ref ao))):=hp
  have ll:=ok.ll
  have p4:=ok.p4
  have p1:=ok.p1
  refine⟨_,(ag (aF (i:=2) sc_step_table.nd rfl (Or.inr rfl) (aN ah))
   (ag (cV PassesOwn.never rfl (d8 rfl T.cN (aa (ba (iX (K:=K) rfl) rfl T.du PySem.boot_len (aa (aV (pv 0) rfl) ah)) ah)) (a7 (i:=3) sc_step_table.nd rfl (Or.inl rfl) (hf:=Or.inl rfl))
    (aj (bX (d9 PySem.F.plainAttrs_list PySem.F.slot_list_append PySem.F.type_list_append b9 (pv 2) (aa (aP jw (hr.mono (by decide)) rfl (aa (pv 3) (aa (aV (pv 0) rfl) (aa (pv 1) (aa (pv 2) (aa (aV (pv 0) rfl) ah)))))) ah)))))
   (ag (aF (i:=4) sc_step_table.nd rfl (Or.inr rfl) am)
   (ag (cV PassesOwn.never rfl (bQ (aV (pv 0) rfl)) (a7 (i:=5) sc_step_table.nd rfl (Or.inl rfl) (hf:=Or.inl rfl))
    (aj (aF (i:=4) sc_step_table.nd rfl (Or.inr rfl) (aP ca (hr.mono (by decide)) rfl (aa (pv 4) (aa (aA aG (aA aQ (pv 2) (pv 5) (fun _ _=>rfl)) am (fun _ _=>rfl)) ah))))))
   (aj (ay (bq (aa (eK (own:=[("out",5)]) rfl sc_step_table.nd (bQ (aV (pv 0) rfl)) (bH (N:=["chain","values","rows","number","denominator","out"]) (sc:=aw gu) (by decide +kernel)) (fun _ _ _ _ _=>(a7 (i:=5) sc_step_table.nd rfl (Or.inl rfl) (hf:=Or.inr rfl))) (fun _ _ _ _ _=>cn) (fun _ _ _ _ _=>(aP eQ (hr.mono (by decide)) rfl (aa (pv 4) (aa (aA (ixL (K:=K) rfl) (pv 2) (pv 5) (fun _ _=>rfl)) ah))))) (aa (pv 4) ah))))))))),?_⟩
  refine⟨Nat.zero_le _,fun l hl'=>?_⟩
  have nl:H l=none:=hl'
  have fp:∀{H':Hp},Same H H'→H' p=some (.ins (ad.cls "Chain") dx (chF (.int (c.parts:Int)) (.ref al) (.ref ao))):=fun s'=>s' _ _ hp
  have s0:=Same.new (o:=.lst []) nl
  refine⟨_,rfl,p,_,dx,_,_,rfl,fp s0,T.bU,T.n_Chain_lines,pk ..,al,_,rfl,.inl (s0.seq hal),(ul.length:Int),rfl,(by omega),(by omega),?_⟩
  refine i7 (lo:=0) (n:=(ul.length:Int).toNat) (fun i σ H'=>∃(v3:Option V) (vv:List V) (rws:List (List Int×Int)) (M:Nat),σ=[some (.ref p),some u,some (.ref l),v3,none,none]∧Same H H'∧H' l=some (.lst vv)∧Paired (dg K H') vv rws∧rws.length=i∧rws.map BM.val=BM.fD c.parts vals [] ((a6 c).take i)∧(∀r∈rws,BM.Bd r M (502*i)∧r.1.length=c.parts)∧0 < M∧Vagraa.bits M≤1000*i+1)
   ⟨none,[],[],1,rfl,s0,af,.nil,rfl,rfl,(fun r hr=>nomatch hr),by decide,by decide⟩ ?_ ?_
  ·rintro i σ H' hi ⟨v3,vv,rws,M,rfl,hs,hv,hpr,hrl,hval,hbd,hM,hMb⟩
   have hi:i < c.lines.length:=by omega
   refine⟨_,rfl,.inl ⟨rfl,_,SqL.of hv⟩,_,rfl,_,rfl,p,_,dx,_,_,rfl,fp hs,T.bU,T.n_Chain_lines,pk ..,_,rfl,_,rfl,_,rfl,p,_,dx,_,_,rfl,fp hs,T.bU,T.n_Chain_parts,lR ..,?_⟩
   have cr:L9 ⟨i,c.lines,vals,rws,c.parts,M,502*i⟩:=⟨ok.wf,ok.kn,hi,hrl,vok.len,vok.sm,fun a b e=>vok.dv i a b e,hbd,hM,by show Vagraa.bits M≤10000000; omega,by show 502*i≤10000000; omega,by show c.parts≤1000; omega⟩
   refine(show rA K [.int (0+(i:Int)),.ref al,u,.ref l,.int (c.parts:Int)] H' _ E0 from bZ ⟨i,c.lines,vals,rws,c.parts,M,502*i⟩ ⟨_,_,_,(by rw [Int.zero_add]),⟨al,ul,rfl,hs.seq hal,aT mTI hs hpl⟩,gU mFr _ _ _ _ hs hvals,⟨l,vv,rfl,SqL.of hv,hpr⟩,cr⟩ fun H2 r s2 h2=>?_)
   obtain⟨row,q,hrow,hrv,hrb,hrlen,hq,hqb⟩:=h2
   have hrow:dg K H2 r row:=hrow
   have hrlen:row.1.length=c.parts:=hrlen
   have hrb:BM.Bd row (M*q) (502*i+502):=hrb
   have hv2:=s2 l _ hv
   have hpr2:=aT Gn s2 hpr
   have refs:=pQ hpr
   have nonempty:∀r∈rws,r.1≠[]:=fun r hr z=>by have:=(hbd r hr).2; rw [z] at this; have:0=c.parts:=this; omega
   have hrn:row.1≠[]:=fun z=>by rw [z] at hrlen; have:0=c.parts:=hrlen; omega
   refine⟨l,_,_,rfl,rfl,hv2,(by rw [aJ hpr,hrl]; exact bu (by omega)),?_⟩
   refine⟨_,_,rws++[row],M*q,rfl,(hs.trans s2).upd1 nl,af,?_,by rw [List.length_append,hrl]; rfl,?_,?_,Nat.mul_pos hM hq,?_⟩
   ·exact bz (jP hv2 refs hpr2 nonempty) (yY hrow hv2 refs hrn)
   ·have hci:(a6 c)[i]?= some (BM.aU (c.lines.getD i [])):=by
     unfold a6
     rw [List.getElem?_map,List.getD_eq_getElem?_getD,List.getElem?_eq_getElem hi]
     rfl
    obtain⟨b1,b2⟩:=List.getElem?_eq_some_iff.mp hci
    rw [List.take_succ_eq_append_getElem b1,pN,b2,←hval,List.map_append,List.length_map,hrl]
    show _++[BM.val row]=_
    rw [hrv]
   ·intro r' hr'
    rcases List.mem_append.mp hr' with e | e
    ·exact⟨(hbd r' e).1.mono (Nat.dvd_mul_right ..) (by omega),(hbd r' e).2⟩
    ·rw [List.mem_singleton.mp e]
     exact⟨hrb.mono (Nat.dvd_refl _) (by omega),hrlen⟩
   ·have:=BM.e8 M q
    omega
  ·rintro σ H' ⟨v3,vv,rws,M,rfl,hs,hv,hpr,hrl,hval,hbd,hM,hMb⟩
   have hrl:rws.length=c.lines.length:=by rw [hrl]; omega
   have hvl:=aJ hpr
   have ecode:(a6 c).take (ul.length:Int).toNat=a6 c:=List.take_of_length_le (by unfold a6; rw [List.length_map]; omega)
   rw [ecode] at hval
   have hMb:Vagraa.bits M≤30001:=by omega
   have zM:Sz M 15060:=⟨hM,by rw [jb]; omega,by decide⟩
   have hbd:∀r∈rws,BM.Bd r M 15060∧r.1.length=c.parts:=fun r hr=>⟨(hbd r hr).1.mono (Nat.dvd_refl _) (by omega),(hbd r hr).2⟩
   have row_at:∀o∈c.outs,∃ve re,rws[o]?= some re∧vv[o]?= some ve∧dg K H' ve re:=fun o ho=>by
    obtain⟨re,hre⟩:∃re,rws[o]?= some re:=⟨_,List.getElem?_eq_getElem (by rw [hrl]; exact ok.ok o ho)⟩
    obtain⟨ve,h1,h2⟩:=bt hpr hre
    exact⟨ve,re,hre,h1,h2⟩
   have outs_at:∀{i:Nat} {x:V},((jQ c).map V.int)[i]?= some x→∃o:Nat,c.outs[i]?= some o∧x=.int (o:Int)∧o∈c.outs:=fun {i x} hx=>by
    obtain⟨n,hn,rfl⟩:=dE hx
    unfold jQ at hn
    rw [List.getElem?_map] at hn
    cases e:c.outs[i]? with
    | none=>rw [e] at hn; cases hn
    | some o=>
     rw [e] at hn
     have hn:(o:Int)=n:=Option.some.inj hn
     exact⟨o,rfl,by rw [hn],List.mem_of_getElem? e⟩
   have hao':=hs.seq hao
   refine⟨_,rfl,p,_,dx,_,_,rfl,fp hs,T.bU,T.n_Chain_outs,tI ..,ao,rfl,⟨_,hao'⟩,?_⟩
   refine eZ (K:=K) (a:=ao) (xs:=(jQ c).map V.int) (fun i σ H2=>∃(d:Int) (v5:Option V),σ=[some (.ref p),some u,some (.ref l),v3,some (.int d),v5]∧H2=H'∧0 < d∧d.toNat∣M∧∀(j o:Nat) (re:List Int×Int),j < i→c.outs[j]?= some o→rws[o]?= some re→re.2∣d)
    ⟨1,none,rfl,rfl,by decide,Nat.one_dvd _,fun j o re hj=>absurd hj (Nat.not_lt_zero _)⟩ (fun i σ H2 _ ⟨_,_,_,e,_⟩=>by rw [e]; exact hao') ?_ ?_
   ·rintro i x σ H2 hx ⟨d,v5,rfl,rfl,hd,hdM,hdv⟩
    obtain⟨o,ho,rfl,hom⟩:=outs_at hx
    obtain⟨ve,re,hre,hve,hrr⟩:=row_at o hom
    obtain⟨pr,_,_,rfl,hpr',⟨ar,rfl,har⟩,rfl⟩:=hrr
    have bre:=(hbd re (List.mem_of_getElem? hre)).1
    have hdb:Ft d:=by
     refine fo (m:=20000000) (cC (y:=(M:Int)) ?_ zM.bits) (by decide)
     have:=Nat.le_of_dvd hM hdM
     omega
    refine⟨_,rfl,_,rfl,_,rfl,l,_,_,_,rfl,rfl,SqL.of hv,bW rfl hve,pr,_,1,_,rfl,rfl,hpr',rfl,d,re.2,rfl,hd,bre.pos,hdb,fo (pA bre zM) (by decide),?_⟩
    have hlp:0 < ((Int.lcm d re.2:Nat):Int):=by
     have:=Int.lcm_pos (by omega:d≠0) (by have:=bre.pos; omega:re.2≠0)
     omega
    refine⟨_,_,rfl,rfl,hlp,wW hd bre.pos hdM bre.dvd,fun j o' re' hj ho' hre'=>?_⟩
    by_cases hji:j < i
    ·exact Int.dvd_trans (hdv j o' re' hji ho' hre') (Int.dvd_lcm_left ..)
    ·have ej:j=i:=by omega
     subst ej
     rw [ho] at ho'
     cases ho'
     rw [hre] at hre'
     cases hre'
     exact Int.dvd_lcm_right ..
   ·rintro σ H2 ⟨d,v5,rfl,rfl,hd,hdM,hdv⟩
    have hol:((jQ c).map V.int).length=c.outs.length:=by unfold jQ; rw [List.length_map,List.length_map]
    rw [hol] at hdv
    have hdv:∀(j o:Nat) (re:List Int×Int),c.outs[j]?= some o→rws[o]?= some re→re.2∣d:=fun j o re ho hre=>hdv j o re (List.getElem?_eq_some_iff.mp ho).1 ho hre
    refine⟨_,rfl,p,_,dx,_,_,rfl,fp hs,T.bU,T.n_Chain_outs,tI ..,ao,rfl,⟨_,hao'⟩,fun D hD=>?_⟩
    have hD:H2 D=none:=hD
    obtain⟨g,hg⟩:∃g:Nat→List Int,g=fun o=>(BM.qf d (rws.getD o ([],1))).1:=⟨_,rfl⟩
    refine dD (K:=K) (a:=ao) (xs:=(jQ c).map V.int) (fun i H3=>Same H2 H3∧∃acc,H3 D=some (.lst acc)∧Paired (rLI K (hide (at1 D) H3)) acc ((c.outs.take i).map g))
     ⟨Same.new hD,_,af,.nil⟩ (fun i H3 _ ⟨s1,_⟩=>s1.seq hao') ?_ ?_
    ·rintro i x H3 hx ⟨s1,acc,hacc,hpa⟩
     obtain⟨o,ho,rfl,hom⟩:=outs_at hx
     obtain⟨ve,re,hre,hve,hrr⟩:=row_at o hom
     obtain⟨bre,lre⟩:=hbd re (List.mem_of_getElem? hre)
     have hdre:=hdv i o re ho hre
     have s1h:=s1.hide1 hD
     refine⟨rfl,_,rfl,_,rfl,_,rfl,l,_,_,_,rfl,rfl,SqL.of (s1 l _ hv),bW rfl hve,?_⟩
     refine(show AX K [.int d,ve] H3 _ E0 from DT (d,re) hacc ⟨_,rfl,Gn _ _ _ _ s1h hrr,bre.pos,(fun y hy=>?_),(by show re.1.length≤1000; omega)⟩ fun H4 r4 s4 h4=>?_)
     ·refine Ft.mul (fo (px bre zM hy) (by decide)) (fo (m:=20000000) (cC (y:=(M:Int)) ?_ zM.bits) (by decide))
      have h1:=Nat.le_of_dvd hM hdM
      have h2:=bre.pos
      show(d / re.2).natAbs≤(M:Int).natAbs
      rw [Int.natAbs_ediv_of_nonneg (by omega)]
      exact Nat.le_trans (Nat.div_le_self _ _) (by omega)
     ·have h4:rLI K (hide (at1 D) H4) r4 (BM.qf d re).1:=h4
      have hal':acc.length=i:=by
       rw [aJ hpa,List.length_map,List.length_take]
       have:=(List.getElem?_eq_some_iff.mp ho).1
       omega
      refine⟨_,s4 D _ hacc,?_,(s1.trans s4).upd1 hD,_,af,?_⟩
      ·rw [hal']
       have:=(List.getElem?_eq_some_iff.mp ho).1
       have:=ok.ol
       exact bu (by omega)
      ·rw [dR,gF ho]
       refine bz (aT mLI s4.hide hpa) ?_
       have eg:g o=(BM.qf d re).1:=by rw [hg]; show(BM.qf d (rws.getD o ([],1))).1=_; rw [List.getD_eq_getElem?_getD,hre]; rfl
       rw [eg]
       exact h4
    ·rintro H3 ⟨s1,acc,hacc,hpa⟩
     rw [hol,List.take_length] at hpa
     refine⟨_,rfl,(by show 2≤sizeLine; decide),fun t ht=>?_⟩
     have snt:=Same.new (o:=.tup [.ref D,.int d]) ht
     refine k _ _ ((hs.trans s1).trans snt) ⟨(c.outs.map g,d),M,⟨t,_,_,rfl,SqT.of af,⟨D,acc,rfl,SqL.of (snt D _ hacc),aT mLI (hide_same.trans snt) hpa⟩,rfl⟩,⟨?_,fun o lo he=>?_,hM,hd,hdM⟩,hMb⟩
     ·show(List.map _ _).length=_
      rw [List.length_map]; exact ok.ol
     ·have he:(c.outs.map g)[o]?= some lo:=he
      rw [List.getElem?_map] at he
      cases ho:c.outs[o]? with
      | none=>rw [ho] at he; cases he
      | some oo=>
       rw [ho] at he
       have he:g oo=lo:=Option.some.inj he
       have hom:=List.mem_of_getElem? ho
       obtain⟨ve,re,hre,hve,hrr⟩:=row_at oo hom
       obtain⟨bre,lre⟩:=hbd re (List.mem_of_getElem? hre)
       have hdre:=hdv o oo re ho hre
       have eg:g oo=(BM.qf d re).1:=by rw [hg]; show(BM.qf d (rws.getD oo ([],1))).1=_; rw [List.getD_eq_getElem?_getD,hre]; rfl
       rw [←he,eg]
       refine⟨BM.wB bre hd hdre hdM,?_⟩
       show BM.val (BM.qf d re)=_
       rw [BM.r6 bre hd hdre]
       refine BM.bK (by rw [BM.jd]; exact lre) fun kk hkk=>?_
       rw [BM.Ix hkk,←hval]
       have eo:c.outs.getD o 0=oo:=by rw [List.getD_eq_getElem?_getD,ho]; rfl
       rw [eo,kL hre]
end
end B
namespace B
open PySem PySem.Spec PyProof.Rows L2
section
variable {P:Program} {w:World} {K:PySem.W.Frag} {mg:Str→Option Value} {base:Heap} {ad:Ad}
noncomputable def eO (l:List Nat):List Int:=l.map fun (n:Nat)=>(n:Int)
theorem lG {l:List Nat} {i n:Nat} (h:l[i]?= some n):((eO l).map V.int)[i]?= some (.int (n:Int)):=by
 unfold eO
 rw [List.map_map,List.getElem?_map,h]
 rfl
theorem gT (l:List Nat):(eO l).length=l.length:=List.length_map ..
theorem lF (l:List Nat) (n:Nat):eO (l++[n])=eO l++[(n:Int)]:=by unfold eO; rw [List.map_append]; rfl
theorem kK {l:List Nat} {i:Nat} (h:i < l.length):l[i]?= some (l.getD i 0):=by
 rw [List.getD_eq_getElem?_getD,List.getElem?_eq_getElem h]; rfl
noncomputable abbrev qI:Stmt:=top 69
theorem sc_costs:aD ["n","before","column","m"] ["n","before","column"] (aw qI):=⟨rfl,rfl,rfl,by decide +kernel,rfl,by decide +kernel,by decide +kernel⟩
noncomputable def nj (K:PySem.W.Frag):Sp:=bP (fun (x:Nat×List Nat×List Nat) vs H=>∃v u,vs=[.int (x.1:Int),v,u]∧rLI K H v (eO x.2.1)∧rLI K H u (eO x.2.2)∧x.1≤x.2.1.length∧x.1≤x.2.2.length∧x.1≤100) (fun x r H=>rLI K H r (eO (BM.cQ x.2.1 x.2.2 x.1)))
theorem Gf {f:Addr} {fd:FuncData} (T:Tx P K mg base ad) (F:Fun K "costs" "costs" qI f fd):FnOk P w K mg base CX0 40 f fd ["n","before","column"] (nj K):=by
 refine bb (F.ok sc_costs (fun vs H Q E h=>?_) (fun cdv A outer s H vs Q E hr h=>?_))
 ·obtain⟨x,⟨_,_,rfl,_⟩,_⟩:=h; rfl
 ·obtain⟨⟨n,prev,cur⟩,⟨v,u,rfl,⟨ap,rfl,hap⟩,⟨ac,rfl,hac⟩,hp,hc,hn⟩,k⟩:=h
  have hap:SqL K H ap ((eO prev).map V.int):=hap
  have hac:SqL K H ac ((eO cur).map V.int):=hac
  have hp:n≤prev.length:=hp
  have hc:n≤cur.length:=hc
  have hn:n≤100:=hn
  refine⟨_,(aj (ay (eK (own:=[("m",3)]) rfl sc_costs.nd (vg rfl T.cN (aa am (aa (pv 0) ah))) (bH (N:=["n","before","column","m"]) (sc:=aw qI) (by decide +kernel)) (fun _ _ _ _ _=>(a7 (i:=3) sc_costs.nd rfl (Or.inl rfl) (hf:=Or.inr rfl))) (fun _ _ _ _ _=>cn) (fun _ _ _ _ _=>(aR cu (aR cu (pv 3) (aA (ixL (K:=K) rfl) (pv 1) (aR fE (pv 0) (pv 3)) (fun _ _=>rfl))) (aA (ixL (K:=K) rfl) (pv 2) (pv 3) (fun _ _=>rfl))))))),?_⟩
  refine⟨_,rfl,1,_,rfl,⟨by decide,by decide,(by show -(2 ^ 62)≤(n:Int); omega),(by show(n:Int) < 2 ^ 62; omega)⟩,fun D hD=>?_⟩
  have hD:H D=none:=hD
  refine kz (lo:=1) (n:=((n:Int) - 1).toNat) (fun i H'=>Same H H'∧H' D=some (.lst ((eO ((List.range i).map fun j=>Vagrag.partCost prev cur n (j+1))).map V.int)))
   ⟨Same.new hD,af⟩ ?_ ?_
  ·rintro i H' hi ⟨s1,hv⟩
   have hi:i+1 < n:=by omega
   have e1:prev[n - (i+1)]?= some (prev.getD (n - (i+1)) 0):=kK (by omega)
   have e2:cur[i+1]?= some (cur.getD (i+1) 0):=kK (by omega)
   refine⟨rfl,_,rfl,_,rfl,_,rfl,_,rfl,_,_,rfl,rfl,ap,_,_,_,rfl,rfl,s1.seq hap,bW (j:=n - (i+1)) (by show(n:Int) - (1+(i:Int))=_; omega) (lG e1),_,_,rfl,rfl,_,rfl,_,rfl,ac,_,_,_,rfl,rfl,s1.seq hac,bW (j:=i+1) (by omega) (lG e2),_,_,rfl,rfl,_,hv,?_,s1.upd1 hD,?_⟩
   ·rw [List.length_map,gT,List.length_map,List.length_range]; exact bu (by omega)
   ·rw [af,List.range_succ,List.map_append,List.map_cons,List.map_nil,lF,List.map_append]
    show some (HO.lst (_++[V.int (1+(i:Int)+_+_)]))=some (HO.lst (_++[V.int _]))
    unfold Vagrag.partCost
    rw [show((i+1+prev.getD (n - (i+1)) 0+cur.getD (i+1) 0:Nat):Int)=1+(i:Int)+(prev.getD (n - (i+1)) 0:Nat)+(cur.getD (i+1) 0:Nat) by omega]
  ·rintro H' ⟨s1,hv⟩
   refine k _ _ s1 ⟨D,rfl,SqL.of ?_⟩
   rw [hv,show((n:Int) - 1).toNat=n - 1 by omega]
   rfl
noncomputable abbrev f9:Stmt:=top 68
theorem sc_column_behind:aD ["before","column","n"] ["before"] (aw f9):=⟨rfl,rfl,rfl,by decide +kernel,rfl,by decide +kernel,by decide +kernel⟩
theorem Da {l:List Nat} {m:Int} (hm:m∈eO l) (h:∀y,y∈eO l→m≤y):m=(Vagrag.leastOf l:Nat):=by
 obtain⟨n,hn,rfl⟩:=List.mem_map.mp hm
 rw [BM.BN hn fun y hy=>by
  have:=h (y:Int) (List.mem_map.mpr ⟨y,hy,rfl⟩)
  omega]
noncomputable def rB (K:PySem.W.Frag):Sp:=bP (fun (x:List Nat) vs H=>∃v,vs=[v]∧rLI K H v (eO x)∧x.length=61) (fun x r H=>rLI K H r (eO (Vagrag.rowFrom x 61 [])))
theorem oR {f:Addr} {fd:FuncData} (T:Tx P K mg base ad) (F:Fun K "column_behind" "column_behind" f9 f fd) (lK:Fb P w K mg base 40 "costs" ["n","before","column"] (nj K)):FnOk P w K mg base CX0 41 f fd ["before"] (rB K):=by
 refine bb (F.ok sc_column_behind (fun vs H Q E h=>?_) (fun cdv A outer s H vs Q E hr h=>?_))
 ·obtain⟨x,⟨_,rfl,_⟩,_⟩:=h; rfl
 ·obtain⟨prev,⟨v,rfl,⟨ap,rfl,hap⟩,hp⟩,k⟩:=h
  refine⟨_,(ag (aF (i:=1) sc_column_behind.nd rfl (Or.inl rfl) (aN (aa am (aa am ah))))
   (ag (cV PassesOwn.never rfl (vg rfl T.cN (aa am (aa (aR cu (aO rfl T.b7) am) ah))) (a7 (i:=2) sc_column_behind.nd rfl (Or.inl rfl) (hf:=Or.inl rfl))
    (aj (bX (d9 PySem.F.plainAttrs_list PySem.F.slot_list_append PySem.F.type_list_append b9 (pv 1) (aa (ba (G0 rfl) rfl T.tK nW (aa (aP lK (hr.mono (by decide)) rfl (aa (pv 2) (aa (pv 0) (aa (pv 1) ah)))) ah)) ah)))))
   (aj (ay (pv 1))))),?_⟩
  refine⟨(by show 2≤sizeLine; decide),fun l hl'=>?_⟩
  have nl:H l=none:=hl'
  refine⟨_,_,rfl,rfl,2,_,rfl,⟨by decide,by decide,by decide,by decide⟩,?_⟩
  refine i7 (lo:=2) (n:=59) (fun i σ H'=>∃v2:Option V,σ=[some (.ref ap),some (.ref l),v2]∧Same H H'∧H' l=some (.lst ((eO (Vagrag.rowFrom prev (i+2) [])).map V.int)))
   ⟨none,rfl,Same.new nl,af⟩ ?_ ?_
  ·rintro i σ H' hi ⟨v2,rfl,hs,hv⟩
   refine⟨_,rfl,.inl ⟨rfl,_,SqL.of hv⟩,_,rfl,_,rfl,_,rfl,?_⟩
   refine(show nj K [.int (2+(i:Int)),.ref ap,.ref l] H' _ E0 from bZ (i+2,prev,Vagrag.rowFrom prev (i+2) []) ⟨_,_,(by rw [show(2:Int)+(i:Int)=((i+2:Nat):Int) by omega]),⟨ap,rfl,hs.seq hap⟩,⟨l,rfl,SqL.of hv⟩,(by show i+2≤prev.length; omega),(by show i+2≤_; rw [BM.bF]; exact Nat.le_refl _),(by show i+2≤100; omega)⟩ fun H2 r s2 h2=>?_)
   obtain⟨a2,rfl,ha2⟩:=h2
   have ha2:SqL K H2 a2 ((eO (BM.cQ prev (Vagrag.rowFrom prev (i+2) []) (i+2))).map V.int):=ha2
   refine⟨a2,_,rfl,ha2,?_,fun m hm hmin=>?_⟩
   ·rw [gT]; unfold BM.cQ; rw [List.length_map,List.length_range]; omega
   ·have hm:=Da hm hmin
    subst hm
    have hv2:=s2 l _ hv
    refine⟨l,_,_,rfl,rfl,hv2,(by rw [List.length_map,gT,BM.bF]; exact bu (by omega)),?_⟩
    refine⟨_,rfl,(hs.trans s2).upd1 nl,?_⟩
    have e3:Vagrag.rowFrom prev (i+1+2) []=Vagrag.rowFrom prev (i+2) []++[Vagrag.leastOf (BM.cQ prev (Vagrag.rowFrom prev (i+2) []) (i+2))]:=by
     have e4:=BM.dm prev (i+2) []
     have e5:=BM.l0 (prev:=prev) (cur:=Vagrag.rowFrom prev (i+2) []) (by rw [BM.bF]; omega)
     rw [BM.bF] at e5
     rw [e5] at e4
     exact e4
    rw [af,e3,lF,List.map_append]
    rfl
  ·rintro σ H' ⟨v2,rfl,hs,hv⟩
   exact⟨_,rfl,k _ _ hs ⟨l,rfl,SqL.of hv⟩⟩
noncomputable abbrev dU:Stmt:=top 67
theorem sc_least_columns:aD ["columns","n"] [] (aw dU):=⟨rfl,rfl,rfl,by decide +kernel,rfl,by decide +kernel,by decide +kernel⟩
noncomputable def dG (k:Nat):List (List Int):=(List.range k).map fun c=>eO (Vagrag.row 60 (c+1))
noncomputable def wg (K:PySem.W.Frag):Sp:=bP (fun (_:Unit) vs _=>vs=[]) (fun _ r H=>b0 K (rLI K) H r (dG 20))
theorem Ce (k:Nat):dG (k+1)=dG k++[eO (Vagrag.row 60 (k+1))]:=by unfold dG; rw [List.range_succ,List.map_append]; rfl
theorem FW {k:Nat} (h:1≤k):Vagrag.row 60 (k+1)=Vagrag.rowFrom (Vagrag.row 60 k) 61 []:=by
 obtain⟨d,rfl⟩:∃d,k=d+1:=⟨k - 1,by omega⟩
 rfl
theorem oQ {f:Addr} {fd:FuncData} (T:Tx P K mg base ad) (F:Fun K "least_columns" "least_columns" dU f fd) (gf:Fb P w K mg base 41 "column_behind" ["before"] (rB K)):FnOk P w K mg base CX0 42 f fd [] (wg K):=by
 refine bb (F.ok sc_least_columns (fun vs H Q E h=>?_) (fun cdv A outer s H vs Q E hr h=>?_))
 ·obtain⟨x,rfl,_⟩:=h; rfl
 ·obtain⟨_,rfl,k⟩:=h
  have dv:=pY (N:=["columns","n"]) (E:=E) (H:=H) (outer:=outer) (K:=K) (mg:=mg) (w:=w) T.seer T.tree sc_least_columns hr (by decide)
  refine⟨_,(ag (aF (i:=0) sc_least_columns.nd rfl (Or.inl rfl) (aN (aa (eK (own:=[("n",1)]) rfl sc_least_columns.nd (d8 rfl T.cN (aa (aR cu (aO rfl T.b7) am) ah)) (bH (N:=["columns","n"]) (sc:=aw dU) (by decide +kernel)) (fun _ _ _ _ _=>(a7 (i:=1) sc_least_columns.nd rfl (Or.inl rfl) (hf:=Or.inr rfl))) (fun _ _ _ _ _=>cn) (fun _ _ _ _ _=>(aR (dP dv.blk) (aR bv (pv 1) (aR fE (pv 1) am)) am))) ah)))
   (ag (iV PassesOwn.never (aE r8 (ba (iX (K:=K) rfl) rfl T.du PySem.boot_len (aa (pv 0) ah)) (aO rfl T.cM) (aK _))
    (aj (bX (d9 PySem.F.plainAttrs_list PySem.F.slot_list_append PySem.F.type_list_append b9 (pv 0) (aa (aP gf (hr.mono (by decide)) rfl (aa (aA aQ (pv 0) (rY mf am) (fun _ _=>rfl)) ah)) ah)))))
   (aj (ay (pv 0))))),?_⟩
  refine⟨_,_,rfl,rfl,_,rfl,by decide,by decide,fun D hD=>?_⟩
  have hD:H D=none:=hD
  refine kz (lo:=0) (n:=61) (fun i H'=>Same H H'∧H' D=some (.lst ((eO ((List.range i).map Vagrag.alone)).map V.int)))
   ⟨Same.new hD,af⟩ ?_ ?_
  ·rintro i H' hi ⟨s1,hv⟩
   refine⟨rfl,_,rfl,_,rfl,_,_,rfl,rfl,_,_,rfl,rfl,?_,_,_,rfl,rfl,(by show(0:Int) < 2; decide),_,hv,?_,s1.upd1 hD,?_⟩
   ·exact Ft.mul (fo (m:=64) (intBits_le_64 (by omega) (by omega)) (by decide)) (fo (m:=64) (intBits_le_64 (by omega) (by omega)) (by decide))
   ·rw [List.length_map,gT,List.length_map,List.length_range]; exact bu (by omega)
   ·rw [af,List.range_succ,List.map_append,List.map_cons,List.map_nil,lF,List.map_append]
    show some (HO.lst (_++[V.int ((0+(i:Int))*(0+(i:Int) - 1) / 2)]))=some (HO.lst (_++[V.int _]))
    have e:(0+(i:Int))*(0+(i:Int) - 1) / 2=(Vagrag.alone i:Nat):=by
     unfold Vagrag.alone
     rw [Int.zero_add]
     cases i with
     | zero=>rfl
     | succ j=>
      show((j+1:Nat):Int)*(((j+1:Nat):Int) - 1) / 2=(((j+1)*j / 2:Nat):Int)
      rw [show((j+1:Nat):Int) - 1=(j:Int) by omega,←Int.natCast_mul,Int.natCast_ediv]
      rfl
    rw [e]
  ·rintro H' ⟨s1,hv⟩
   refine⟨(by show 1≤sizeLine; decide),fun l hl'=>?_⟩
   have nl:H' l=none:=hl'
   have hDl:D≠l:=az hv nl
   dsimp only [DY,yA,nP,tC]
   refine j7 (fun σ H2=>∃(vv:List V) (kk:Nat),σ=[some (.ref l),none]∧Same H' H2∧H2 l=some (.lst vv)∧Paired (rLI K (hide (at1 l) H2)) vv (dG kk)∧1≤kk∧kk≤20) (fun σ H2=>match H2 l with | some (.lst vv)=>20 - vv.length | _=>0)
    ⟨[.ref D],1,rfl,Same.new nl,af,.cons ⟨D,rfl,?_⟩ .nil,Nat.le_refl _,by decide⟩ ?_ (fun σ H Q Q' h ⟨v,e,a,b,c,d,i,j,h1,h2,z,h3,q⟩=>⟨v,e,a,b,c,d,i,j,h1,h2,z,h3,h _ _ q⟩)
   ·rw [dR]
    exact SqL.of (by rw [bw (decide_eq_false hDl)]; exact hv)
   rintro σ H2 ⟨vv,kk,rfl,hs,hvv,hp,h1,h20⟩
   have hlen:vv.length=kk:=by rw [aJ hp]; unfold dG; rw [List.length_map,List.length_range]
   refine⟨_,rfl,l,_,rfl,.inl (SqL.of hvv),_,_,rfl,rfl,_,rfl,dH (fun h=>?_) fun h=>?_⟩
   ·obtain⟨j,rfl⟩:∃j,kk=j+1:=⟨kk - 1,by omega⟩
    have hcl:(dG (j+1))[j]?= some (eO (Vagrag.row 60 (j+1))):=by unfold dG; rw [List.getElem?_map,List.getElem?_range (by omega)]; rfl
    obtain⟨ve,hve,⟨ae,rfl,hae⟩⟩:=bt hp hcl
    have hlast:atI vv (-1)=some (.ref ae):=by
     have e:vv=vv.dropLast++[.ref ae]:=by
      have hne:vv≠[]:=by intro z; rw [z] at hlen; cases hlen
      have:=List.dropLast_concat_getLast hne
      rw [List.getLast_eq_getElem] at this
      have e2:vv[vv.length - 1]?= some (.ref ae):=by rw [hlen]; exact hve
      obtain⟨b1,b2⟩:=List.getElem?_eq_some_iff.mp e2
      rw [b2] at this
      exact this.symm
     rw [e]
     exact G6 _ _
    refine⟨_,rfl,.inl ⟨rfl,_,SqL.of hvv⟩,_,rfl,1,rfl,l,_,-1,_,rfl,rfl,SqL.of hvv,hlast,?_⟩
    refine(show rB K [.ref ae] H2 _ E0 from DT (Vagrag.row 60 (j+1)) hvv ⟨_,rfl,⟨ae,rfl,hae⟩,BM.jj ..⟩ fun H3 r s3 h3=>?_)
    have h3:rLI K (hide (at1 l) H3) r (eO (Vagrag.rowFrom (Vagrag.row 60 (j+1)) 61 [])):=h3
    refine⟨l,_,_,rfl,rfl,s3 l _ hvv,(by rw [hlen]; exact bu (by omega)),?_⟩
    refine⟨⟨_,j+2,rfl,(hs.trans s3).upd1 nl,af,?_,by omega,by omega⟩,?_⟩
    ·rw [dR,Ce (j+1),FW (by omega)]
     exact bz (aT mLI s3.hide hp) h3
    ·show(match upd H3 l (.lst (vv++[r])) l with | some (.lst vv)=>20 - vv.length | _=>0) < (match H2 l with | some (.lst vv)=>20 - vv.length | _=>0)
     rw [af,hvv]
     show 20 - (vv++[r]).length < 20 - vv.length
     rw [List.length_append]
     have:(([r]:List V)).length=1:=rfl
     omega
   ·have e:kk=20:=by omega
    subst e
    exact⟨_,rfl,k _ _ (s1.trans hs) ⟨l,vv,rfl,SqL.of hvv,aT mLI hide_same hp⟩⟩
noncomputable abbrev kh:Stmt:=top 70
theorem sc_parted_at:aD ["n","c","columns","steps"] ["n","c","columns"] (aw kh):=⟨rfl,rfl,rfl,by decide +kernel,rfl,by decide +kernel,by decide +kernel⟩
noncomputable def ka (K:PySem.W.Frag):Sp:=bP (fun (x:Nat×Nat) vs H=>∃v,vs=[.int (x.1:Int),.int (x.2:Int),v]∧b0 K (rLI K) H v (dG 20)∧2≤x.1∧x.1≤60∧2≤x.2∧x.2≤20) (fun x r _=>r=.int (Vagrag.split x.1 x.2:Nat))
theorem tH {c:Nat} (h:c < 20):(dG 20)[c]?= some (eO (Vagrag.row 60 (c+1))):=by unfold dG; rw [List.getElem?_map,List.getElem?_range h]; rfl
theorem EQ (l:List Int):(l.map V.int).all i8=true:=by rw [List.all_eq_true]; intro x hx; obtain⟨n,_,rfl⟩:=List.mem_map.mp hx; rfl
theorem wI {f:Addr} {fd:FuncData} (T:Tx P K mg base ad) (F:Fun K "parted_at" "parted_at" kh f fd) (lK:Fb P w K mg base 40 "costs" ["n","before","column"] (nj K)):FnOk P w K mg base CX0 41 f fd ["n","c","columns"] (ka K):=by
 refine bb (F.ok sc_parted_at (fun vs H Q E h=>?_) (fun cdv A outer s H vs Q E hr h=>?_))
 ·obtain⟨x,⟨_,rfl,_⟩,_⟩:=h; rfl
 ·obtain⟨⟨n,c⟩,⟨v,rfl,⟨a,us,rfl,ha,hp⟩,h2,h60,h2c,h20⟩,k⟩:=h
  have h2:2≤n:=h2
  have h60:n≤60:=h60
  have h2c:2≤c:=h2c
  have h20:c≤20:=h20
  obtain⟨v1,hv1,⟨a1,rfl,ha1⟩⟩:=bt hp (tH (c:=c - 2) (by omega))
  obtain⟨v2,hv2,⟨a2,rfl,ha2⟩⟩:=bt hp (tH (c:=c - 1) (by omega))
  rw [show c - 2+1=c - 1 by omega] at ha1
  rw [show c - 1+1=c by omega] at ha2
  refine⟨_,(ag (aF (i:=3) sc_parted_at.nd rfl (Or.inl rfl) (aP lK (hr.mono (by decide)) rfl (aa (pv 0) (aa (aA aQ (pv 2) (aR fE (pv 1) am) (fun _ _=>rfl)) (aa (aA aQ (pv 2) (aR fE (pv 1) am) (fun _ _=>rfl)) ah)))))
   (aj (ay (aR cu am (d9 PySem.F.plainAttrs_list PySem.F.slot_list_index PySem.F.type_list_index Gh (pv 3) (aa (ba (G0 rfl) rfl T.tK nW (aa (pv 3) ah)) ah)))))),?_⟩
  refine⟨_,rfl,_,rfl,_,rfl,_,_,rfl,rfl,a,_,_,_,rfl,rfl,ha,bW (j:=c - 2) (by show(c:Int) - 2=_; omega) hv1,_,rfl,_,rfl,_,_,rfl,rfl,a,_,_,_,rfl,rfl,ha,bW (j:=c - 1) (by show(c:Int) - 1=_; omega) hv2,?_⟩
  refine(show nj K [.int (n:Int),.ref a1,.ref a2] H _ E0 from bZ (n,Vagrag.row 60 (c - 1),Vagrag.row 60 c) ⟨_,_,rfl,⟨a1,rfl,ha1⟩,⟨a2,rfl,ha2⟩,(by show n≤_; rw [BM.jj]; omega),(by show n≤_; rw [BM.jj]; omega),(by show n≤100; omega)⟩ fun H2 r s2 h2'=>?_)
  obtain⟨ac,rfl,hac⟩:=h2'
  obtain⟨cs,hcs⟩:∃cs,cs=BM.cQ (Vagrag.row 60 (c - 1)) (Vagrag.row 60 c) n:=⟨_,rfl⟩
  have hac:SqL K H2 ac ((eO cs).map V.int):=by rw [hcs]; exact hac
  have hcl:cs.length=n - 1:=by rw [hcs]; unfold BM.cQ; rw [List.length_map,List.length_range]
  have hne:cs≠[]:=fun z=>by rw [z] at hcl; have:0=n - 1:=hcl; omega
  obtain⟨hm1,hm2⟩:=BM.fY cs hne
  obtain⟨j0,hj0,ej0⟩:=List.getElem_of_mem hm1
  obtain⟨j,hj,hjf⟩:∃j,cs[j]?= some (Vagrag.leastOf cs)∧∀m y,m < j→cs[m]?= some y→y≠Vagrag.leastOf cs:=by
   have:∃j,cs[j]?= some (Vagrag.leastOf cs):=⟨j0,by rw [List.getElem?_eq_getElem hj0,ej0]⟩
   refine⟨cs.findIdx (· == Vagrag.leastOf cs),?_,fun m y hm hy=>?_⟩
   ·have hlt:cs.findIdx (· == Vagrag.leastOf cs) < cs.length:=List.findIdx_lt_length_of_exists ⟨_,hm1,by simp⟩
    rw [List.getElem?_eq_getElem hlt]
    have:=List.findIdx_getElem (w:=hlt)
    exact congrArg some (by simpa using this)
   ·obtain⟨b1,b2⟩:=List.getElem?_eq_some_iff.mp hy
    have:=List.not_of_lt_findIdx hm
    rw [b2] at this
    simpa using this
  refine⟨_,rfl,.inl ⟨rfl,_,hac⟩,_,rfl,ac,eO cs,rfl,hac,(by rw [gT]; omega),fun m hm hmin=>?_⟩
  have hm:=Da hm hmin
  subst hm
  refine⟨ac,_,_,j,_,rfl,rfl,hac,rfl,EQ _,lG hj,(by show((Vagrag.leastOf cs:Int) == (Vagrag.leastOf cs:Int))=true; exact beq_self_eq_true _),(fun m z' hmj hz=>?_),_,_,rfl,rfl,k _ _ s2 ?_⟩
  ·obtain⟨y,hy,rfl⟩:=dE hz
   unfold eO at hy
   rw [List.getElem?_map] at hy
   cases q:cs[m]? with
   | none=>rw [q] at hy; cases hy
   | some yy=>
    rw [q] at hy
    have hy:(yy:Int)=y:=Option.some.inj hy
    have:=hjf m yy hmj q
    show(y == (Vagrag.leastOf cs:Int))=false
    rw [←hy]
    exact beq_eq_false_iff_ne.mpr (by omega)
  ·show V.int (1+(j:Int))=.int (Vagrag.split n c:Nat)
   rw [BM.Ea (N:=60) h2 h60 h2c (by rw [←hcs]; exact hj) (by rw [←hcs]; exact hjf)]
   exact congrArg V.int (by omega)
end
end B
namespace B
open PySem PySem.Spec PyProof.Rows L2
structure Cb (P:Program) (w:World) (K:PySem.W.Frag) (mg:Str→Option Value) (base:Heap) (C:Addr) (k:Nat) (x:Str) (ps:List Str) (sp:Sp):Prop where
 ex:∃(f:Addr) (fd:FuncData),Mk K C f∧FnOk P w K mg base CX0 k f fd ps sp∧mg x=some (.ref C)∧Binds K fd ps []
structure Mb (P:Program) (w:World) (K:PySem.W.Frag) (mg:Str→Option Value) (base:Heap) (C:Addr) (k:Nat) (m:Str) (ps:List Str) (sp:Sp):Prop where
 cl:Cls K C
 ex:∃(f:Addr) (fd:FuncData),Jl K C m f∧FnOk P w K mg base CX0 k f fd ps sp∧Binds K fd ps []
section
variable {X:Cx} {C:Addr} {k:Nat} {ps:List Str} {sp:Sp} {x m:Str} {p pos apos:Pos} {o e:Expr} {es:List Expr} {ta:TE} {t:TA}
theorem C5 (F:Cb X.prog X.w X.K X.mg X.base C k x ps sp) (hr:Room (k+1) X.A) (hg:Gl X x) (ha:PA X (e::es) t) (hdb:(x == ("__debug__": Str))=false:=by decide)
  (he:starEach (e::es) X.env=(false,eval e X.env)::starEach es X.env:=by rfl) (hpl:(backTo pos (starEach es X.env)).any (·.1)=false:=by rfl):PE X (.Call (.Name x p) (e::es) [] pos) (CP C sp [] E0 t):=by
 obtain⟨f,fd,h1,h2,h3,h4⟩:=F.ex
 exact HV h1 h2 hr hg h3 h4 .nil vh ha hdb he hpl
theorem J9 (F:Cb X.prog X.w X.K X.mg X.base C k x ps sp) (hr:Room (k+1) X.A) (hg:Gl X x) (hdb:(x == ("__debug__": Str))=false:=by decide):PE X (.Call (.Name x p) [] [] pos) (CP C sp [] E0 AM):=by
 obtain⟨f,fd,h1,h2,h3,h4⟩:=F.ex
 exact F5 h1 h2 hr hg h3 h4 .nil vh hdb
theorem dO {pl:Sem Bool} (F:Mb X.prog X.w X.K X.mg X.base C k m ps sp) (ho:PE X o ta) (hr:Room k X.A) (ha:PA X (e::es) t)
  (hst:starEach (e::es) X.env=(false,eval e X.env)::starEach es X.env:=by rfl) (hpl:(backTo pos (starEach es X.env)).any (·.1)=false:=by rfl)
  (ht:eval (.Call (.Attribute o m apos) (e::es) [] pos) X.env=(do
   let ov←eval o X.env
   standAt apos.atName
   let (f,first)←holding [ov] (getMethod ov m pl)
   callWith pos f first (backTo pos (starEach (e::es) X.env)) (backToKw pos (keywordEach [] X.env))):=by rfl):
  PE X (.Call (.Attribute o m apos) (e::es) [] pos) (CO C m sp [] E0 ta t):=by
 obtain⟨f,fd,h1,h2,h3⟩:=F.ex
 exact HU (pl:=pl) ho F.cl h1 h2 hr h3 .nil vh ha hst hpl ht
theorem gb {pl:Sem Bool} (F:Mb X.prog X.w X.K X.mg X.base C k m ps sp) (ho:PE X o ta) (hr:Room k X.A)
  (ht:eval (.Call (.Attribute o m apos) [] [] pos) X.env=(do
   let ov←eval o X.env
   standAt apos.atName
   let (f,first)←holding [ov] (getMethod ov m pl)
   callWith pos f first (backTo pos (starEach [] X.env)) (backToKw pos (keywordEach [] X.env))):=by rfl):
  PE X (.Call (.Attribute o m apos) [] [] pos) (CO C m sp [] E0 ta AM):=by
 obtain⟨f,fd,h1,h2,h3⟩:=F.ex
 exact F4 (pl:=pl) ho F.cl h1 h2 hr h3 .nil vh ht
end
theorem Lx {X:Cx} {K:PySem.W.Frag} (h:X.K=K) (hc:X.calm=true):gn X (.builtin "min") (Jn K):=h▸DI hc
theorem p8 {f:Str} {v:V}:∀{ks:List Str} {vs:List V},f∉ks→vs.length=ks.length→bD f v (ks.zip vs)=(ks++[f]).zip (vs++[v])
 | [],[],_,_=>rfl
 | [],_::_,_,h=>by cases h
 | _::_,[],_,h=>by cases h
 | k::ks,x::vs,hf,hl=>by
  show bD f v ((k,x)::ks.zip vs)=(k,x)::((ks++[f]).zip (vs++[v]))
  rw [show bD f v ((k,x)::ks.zip vs)=(if k=f then(k,v)::ks.zip vs else(k,x)::bD f v (ks.zip vs)) from rfl,if_neg fun z=>hf (by rw [z]; exact List.mem_cons_self ..)]
  rw [p8 (ks:=ks) (vs:=vs) (fun z=>hf (List.mem_cons_of_mem _ z)) (by simpa using hl)]
theorem qV {f:Str} {v:V}:∀{ks:List Str} {vs:List V} {i:Nat},ks.Nodup→ks[i]?= some f→vs.length=ks.length→bD f v (ks.zip vs)=ks.zip (vs.set i v)
 | [],_,i,_,hi,_=>by simp at hi
 | _::_,[],_,_,_,h=>by cases h
 | k::ks,x::vs,0,_,hi,_=>by
  have e:k=f:=by simpa using hi
  show bD f v ((k,x)::ks.zip vs)=(k,v)::ks.zip vs
  rw [show bD f v ((k,x)::ks.zip vs)=(if k=f then(k,v)::ks.zip vs else(k,x)::bD f v (ks.zip vs)) from rfl,if_pos e]
 | k::ks,x::vs,i+1,hn,hi,hl=>by
  have hi:ks[i]?= some f:=by simpa using hi
  have hn:=List.nodup_cons.mp hn
  show bD f v ((k,x)::ks.zip vs)=(k,x)::ks.zip (vs.set i v)
  rw [show bD f v ((k,x)::ks.zip vs)=(if k=f then(k,v)::ks.zip vs else(k,x)::bD f v (ks.zip vs)) from rfl,if_neg fun z=>hn.1 (by rw [z]; exact List.mem_of_getElem? hi)]
  rw [qV hn.2 hi (by simpa using hl)]
theorem cF {f:Str} {v:V}:∀{ks:List Str} {vs:List V} {i:Nat},ks.Nodup→ks[i]?= some f→vs[i]?= some v→(ks.zip vs).lookup f=some v
 | [],_,i,_,hi,_=>by simp at hi
 | _::_,[],i,_,_,h=>by simp at h
 | k::ks,x::vs,0,_,hi,hv=>by
  have e:k=f:=by simpa using hi
  have e2:x=v:=by simpa using hv
  show((k,x)::ks.zip vs).lookup f=_
  rw [List.lookup_cons,e,beq_self_eq_true,e2]
 | k::ks,x::vs,i+1,hn,hi,hv=>by
  have hi:ks[i]?= some f:=by simpa using hi
  have hn:=List.nodup_cons.mp hn
  show((k,x)::ks.zip vs).lookup f=_
  rw [List.lookup_cons,show(f == k)=false from beq_eq_false_iff_ne.mpr fun z=>hn.1 (by rw [←z]; exact List.mem_of_getElem? hi)]
  exact cF hn.2 hi (by simpa using hv)
theorem bJ {f:Str}:∀{ks:List Str} {vs:List V},f∉ks→(ks.zip vs).lookup f=none
 | [],_,_=>rfl
 | _::_,[],_=>rfl
 | k::ks,x::vs,h=>by
  show((k,x)::ks.zip vs).lookup f=_
  rw [List.lookup_cons,show(f == k)=false from beq_eq_false_iff_ne.mpr fun z=>h (by rw [z]; exact List.mem_cons_self ..)]
  exact bJ fun z=>h (List.mem_cons_of_mem _ z)
theorem t7 {ks:List Str} {vs:List V} (h:ks.length < 1000):(ks.zip vs).length < 1000:=by rw [List.length_zip]; omega
noncomputable abbrev runK:List Str:=["steps","states","worked","fault","tables"]
noncomputable abbrev deskK:List Str:=["steps","slots","hand","left","stepped","turned"]
noncomputable abbrev holdK:List Str:=["chain","run","columns"]
theorem kj:runK.Nodup:=by decide +kernel
theorem df:deskK.Nodup:=by decide +kernel
theorem pW:holdK.Nodup:=by decide +kernel
noncomputable def SameX (p:Addr) (H H':Hp):Prop:=∀b o,H b=some o→b≠p→H' b=some o
section
variable {P:Program} {w:World} {K:PySem.W.Frag} {mg:Str→Option Value} {base:Heap} {ad:Ad}
noncomputable abbrev fC:Stmt:=bO (top 74) 0
theorem nq:aD ["self","parts","lines","outs"] ["self","parts","lines","outs"] (aw fC):=⟨rfl,rfl,rfl,by decide +kernel,rfl,by decide +kernel,by decide +kernel⟩
noncomputable def yI (C:Addr):Sp:=fun vs H Q _=>∃(p dx:Addr) (v1 v2 v3:V),vs=[.ref p,v1,v2,v3]∧H p=some (.ins C dx [])∧∀H':Hp,H' p=some (.ins C dx (chF v1 v2 v3))→(∀b o,H b=some o→b≠p→H' b=some o)→Q .non H'
theorem um {f:Addr} {fd:FuncData} (T:Tx P K mg base ad) (F:Fun K "__init__" "Chain.__init__" fC f fd):FnOk P w K mg base CX0 40 f fd ["self","parts","lines","outs"] (yI (ad.cls "Chain")):=by
 refine F.ok nq (fun vs H Q E h=>?_) (fun cdv A outer s H vs Q E hr h=>?_)
 ·obtain⟨_,_,_,_,_,rfl,_⟩:=h; rfl
 ·obtain⟨p,dx,v1,v2,v3,rfl,hp,k⟩:=h
  refine⟨_,(ag (b5 (pv 0) (pv 1) rfl)
   (ag (b5 (pv 0) (pv 2) rfl)
   (aj (b5 (pv 0) (pv 3) rfl)))),?_⟩
  refine⟨_,rfl,_,rfl,p,_,dx,_,rfl,hp,T.bU,T.n_Chain_parts,(by show 0 < 1000; decide),?_⟩
  refine⟨_,rfl,_,rfl,p,_,dx,_,rfl,af,T.bU,T.n_Chain_lines,(by exact Nat.lt_of_le_of_lt (cI ..) (by decide)),?_⟩
  refine⟨_,rfl,_,rfl,p,_,dx,_,rfl,af,T.bU,T.n_Chain_outs,(by exact Nat.lt_of_le_of_lt (Nat.le_trans (cI ..) (Nat.succ_le_succ (cI ..))) (by decide)),?_⟩
  exact k _ af fun b o e hb=>by rw [aq hb,aq hb,aq hb]; exact e
noncomputable abbrev gK:Stmt:=bO (top 75) 0
theorem qb:aD ["self","steps","start"] ["self","steps","start"] (aw gK):=⟨rfl,rfl,rfl,by decide +kernel,rfl,by decide +kernel,by decide +kernel⟩
theorem Lk (v1 v2 v3 v4 v5:V):bD "tables" v5 (bD "fault" v4 (bD "worked" v3 (bD "states" v2 (bD "steps" v1 []))))=runK.zip [v1,v2,v3,v4,v5]:=by
 have e1:bD "steps" v1 []=(["steps"]:List Str).zip [v1]:=rfl
 have e2:=p8 (f:="states") (v:=v2) (ks:=["steps"]) (vs:=[v1]) (by decide +kernel) rfl
 have e3:=p8 (f:="worked") (v:=v3) (ks:=["steps","states"]) (vs:=[v1,v2]) (by decide +kernel) rfl
 have e4:=p8 (f:="fault") (v:=v4) (ks:=["steps","states","worked"]) (vs:=[v1,v2,v3]) (by decide +kernel) rfl
 have e5:=p8 (f:="tables") (v:=v5) (ks:=["steps","states","worked","fault"]) (vs:=[v1,v2,v3,v4]) (by decide +kernel) rfl
 rw [e1,e2]
 show bD "tables" v5 (bD "fault" v4 (bD "worked" v3 ((["steps","states"]:List Str).zip [v1,v2])))=_
 rw [e3]
 show bD "tables" v5 (bD "fault" v4 ((["steps","states","worked"]:List Str).zip [v1,v2,v3]))=_
 rw [e4]
 exact e5
noncomputable def uZ (C:Addr):Sp:=fun vs H Q _=>∃(p dx:Addr) (v1 v2:V),vs=[.ref p,v1,v2]∧H p=some (.ins C dx [])∧∀(H':Hp) (ls lw lf lt:Addr),H' p=some (.ins C dx (runK.zip [v1,.ref ls,.ref lw,.ref lf,.ref lt]))→H' ls=some (.lst [v2])→H' lw=some (.lst [])→H' lf=some (.lst [])→H' lt=some (.lst [])→
 H ls=none→H lw=none→H lf=none→H lt=none→ls≠lw→ls≠lf→ls≠lt→lw≠lf→lw≠lt→lf≠lt→SameX p H H'→Q .non H'
theorem zl {f:Addr} {fd:FuncData} (T:Tx P K mg base ad) (F:Fun K "__init__" "Run.__init__" gK f fd):FnOk P w K mg base CX0 40 f fd ["self","steps","start"] (uZ (ad.cls "Run")):=by
 refine F.ok qb (fun vs H Q E h=>?_) (fun cdv A outer s H vs Q E hr h=>?_)
 ·obtain⟨_,_,_,_,rfl,_⟩:=h; rfl
 ·obtain⟨p,dx,v1,v2,rfl,hp,k⟩:=h
  refine⟨_,(ag (b5 (pv 0) (pv 1) rfl)
   (ag (b5 (pv 0) (aN (aa (pv 2) ah)) rfl)
   (ag (b5 (pv 0) (aN ah) rfl)
   (ag (b5 (pv 0) (aN ah) rfl)
   (aj (b5 (pv 0) (aN ah) rfl)))))),?_⟩
  have ln:∀(f:Str) (v:V) (fs:List (Str×V)) (n:Nat),fs.length≤n→(bD f v fs).length≤n+1:=fun f v fs n h=>Nat.le_trans (cI ..) (Nat.succ_le_succ h)
  have l1:=ln "steps" v1 [] 0 (Nat.le_refl _)
  refine⟨_,rfl,_,rfl,p,_,dx,_,rfl,hp,T.ci,T.n_Run_steps,(by show 0 < 1000; decide),?_⟩
  refine⟨_,rfl,(by show 1≤sizeLine; decide),fun ls h1=>⟨_,rfl,p,_,dx,_,rfl,(Same.new h1) _ _ af,T.ci,T.n_Run_states,Nat.lt_of_le_of_lt l1 (by decide),?_⟩⟩
  have n1:ls≠p:=fun z=>by rw [z,af] at h1; cases h1
  have a1:H ls=none:=by rw [aq n1] at h1; exact h1
  have l2:=ln "states" (.ref ls) _ _ l1
  refine⟨(by show 0≤sizeLine; decide),fun lw h2=>⟨_,rfl,p,_,dx,_,rfl,(Same.new h2) _ _ af,T.ci,T.n_Run_worked,Nat.lt_of_le_of_lt l2 (by decide),?_⟩⟩
  have n2:lw≠p:=fun z=>by rw [z,af] at h2; cases h2
  have h2a:=h2
  rw [aq n2] at h2a
  have m12:ls≠lw:=fun z=>by rw [←z,af] at h2a; cases h2a
  rw [aq m12.symm,aq n2] at h2a
  have l3:=ln "worked" (.ref lw) _ _ l2
  refine⟨(by show 0≤sizeLine; decide),fun lf h3=>⟨_,rfl,p,_,dx,_,rfl,(Same.new h3) _ _ af,T.ci,T.n_Run_fault,Nat.lt_of_le_of_lt l3 (by decide),?_⟩⟩
  have n3:lf≠p:=fun z=>by rw [z,af] at h3; cases h3
  have h3a:=h3
  rw [aq n3] at h3a
  have m23:lw≠lf:=fun z=>by rw [←z,af] at h3a; cases h3a
  rw [aq m23.symm,aq n3] at h3a
  have m13:ls≠lf:=fun z=>by rw [←z,af] at h3a; cases h3a
  rw [aq m13.symm,aq n3] at h3a
  have l4:=ln "fault" (.ref lf) _ _ l3
  refine⟨(by show 0≤sizeLine; decide),fun lt h4=>⟨_,rfl,p,_,dx,_,rfl,(Same.new h4) _ _ af,T.ci,T.n_Run_tables,Nat.lt_of_le_of_lt l4 (by decide),?_⟩⟩
  have n4:lt≠p:=fun z=>by rw [z,af] at h4; cases h4
  have h4a:=h4
  rw [aq n4] at h4a
  have m34:lf≠lt:=fun z=>by rw [←z,af] at h4a; cases h4a
  rw [aq m34.symm,aq n4] at h4a
  have m24:lw≠lt:=fun z=>by rw [←z,af] at h4a; cases h4a
  rw [aq m24.symm,aq n4] at h4a
  have m14:ls≠lt:=fun z=>by rw [←z,af] at h4a; cases h4a
  rw [aq m14.symm,aq n4] at h4a
  refine k _ ls lw lf lt (by rw [af,Lk]) ?_ ?_ ?_ ?_ a1 h2a h3a h4a m12 m13 m14 m23 m24 m34 fun b o e hb=>?_
  ·rw [aq n1,aq m14,aq n1,aq m13,aq n1,aq m12,aq n1,af]
  ·rw [aq n2,aq m24,aq n2,aq m23,aq n2,af]
  ·rw [aq n3,aq m34,aq n3,af]
  ·rw [aq n4,af]
  ·rw [aq hb,aq (az e h4a),aq hb,aq (az e h3a),aq hb,aq (az e h2a),aq hb,aq (az e a1),aq hb]
   exact e
noncomputable abbrev ga:Stmt:=bO (top 14) 0
theorem oy:aD ["self","steps","slots"] ["self","steps","slots"] (aw ga):=⟨rfl,rfl,rfl,by decide +kernel,rfl,by decide +kernel,by decide +kernel⟩
theorem KC (v1 v2 v3 v4 v5 v6:V):bD "turned" v6 (bD "stepped" v5 (bD "left" v4 (bD "hand" v3 (bD "slots" v2 (bD "steps" v1 [])))))=deskK.zip [v1,v2,v3,v4,v5,v6]:=by
 have e1:bD "steps" v1 []=(["steps"]:List Str).zip [v1]:=rfl
 have e2:=p8 (f:="slots") (v:=v2) (ks:=["steps"]) (vs:=[v1]) (by decide +kernel) rfl
 have e3:=p8 (f:="hand") (v:=v3) (ks:=["steps","slots"]) (vs:=[v1,v2]) (by decide +kernel) rfl
 have e4:=p8 (f:="left") (v:=v4) (ks:=["steps","slots","hand"]) (vs:=[v1,v2,v3]) (by decide +kernel) rfl
 have e5:=p8 (f:="stepped") (v:=v5) (ks:=["steps","slots","hand","left"]) (vs:=[v1,v2,v3,v4]) (by decide +kernel) rfl
 have e6:=p8 (f:="turned") (v:=v6) (ks:=["steps","slots","hand","left","stepped"]) (vs:=[v1,v2,v3,v4,v5]) (by decide +kernel) rfl
 rw [e1,e2]
 show bD "turned" v6 (bD "stepped" v5 (bD "left" v4 (bD "hand" v3 ((["steps","slots"]:List Str).zip [v1,v2]))))=_
 rw [e3]
 show bD "turned" v6 (bD "stepped" v5 (bD "left" v4 ((["steps","slots","hand"]:List Str).zip [v1,v2,v3])))=_
 rw [e4]
 show bD "turned" v6 (bD "stepped" v5 ((["steps","slots","hand","left"]:List Str).zip [v1,v2,v3,v4]))=_
 rw [e5]
 exact e6
noncomputable def ml (C:Addr):Sp:=fun vs H Q _=>∃(p dx:Addr) (v1:V) (c:Nat),vs=[.ref p,v1,.int (c:Int)]∧1≤c∧c≤1000∧H p=some (.ins C dx [])∧∀(H':Hp) (ls lt:Addr),H' p=some (.ins C dx (deskK.zip [v1,.ref ls,.non,v1,.int 0,.ref lt]))→H' ls=some (.lst (.int 0::List.replicate (c - 1) .non))→H' lt=some (.lst [])→
 H ls=none→H lt=none→ls≠lt→SameX p H H'→Q .non H'
theorem qJ {α:Type} (x:α):∀n:Nat,(List.replicate n [x]).flatten=List.replicate n x
 | 0=>rfl
 | n+1=>by rw [List.replicate_succ,List.flatten_cons,qJ x n]; rfl
theorem wL {f:Addr} {fd:FuncData} (T:Tx P K mg base ad) (F:Fun K "__init__" "Desk.__init__" ga f fd):FnOk P w K mg base CX0 40 f fd ["self","steps","slots"] (ml (ad.cls "Desk")):=by
 refine F.ok oy (fun vs H Q E h=>?_) (fun cdv A outer s H vs Q E hr h=>?_)
 ·obtain⟨_,_,_,_,rfl,_⟩:=h; rfl
 ·obtain⟨p,dx,v1,c,rfl,hc1,hc2,hp,k⟩:=h
  refine⟨_,(ag (b5 (pv 0) (pv 1) rfl)
   (ag (b5 (pv 0) (aR jn (aN (aa am ah)) (aR wC (aN (aa bM ah)) (aR fE (pv 2) am))) rfl)
   (ag (b5 (pv 0) bM rfl)
   (ag (b5 (pv 0) (pv 1) rfl)
   (ag (b5 (pv 0) am rfl)
   (aj (b5 (pv 0) (aN ah) rfl))))))),?_⟩
  have ln:∀(f:Str) (v:V) (fs:List (Str×V)) (n:Nat),fs.length≤n→(bD f v fs).length≤n+1:=fun f v fs n h=>Nat.le_trans (cI ..) (Nat.succ_le_succ h)
  have l1:=ln "steps" v1 [] 0 (Nat.le_refl _)
  refine⟨_,rfl,_,rfl,p,_,dx,_,rfl,hp,T.bj,T.n_Desk_steps,(by show 0 < 1000; decide),?_⟩
  refine⟨(by show 1≤sizeLine; decide),fun l1a ha=>⟨(by show 1≤sizeLine; decide),fun l2a hb=>⟨_,rfl,_,_,rfl,rfl,l2a,(c:Int) - 1,_,rfl,rfl,af,(by omega),(by omega),?_,fun l3a hc=>?_⟩⟩⟩
  ·show 1*((c:Int) - 1).toNat≤sizeLine
   have:=bc (n:=((c:Int) - 1).toNat) (by omega)
   omega
  have na:l1a≠p:=fun z=>by rw [z,af] at ha; cases ha
  have fa:H l1a=none:=by rw [aq na] at ha; exact ha
  have hb1:=hb
  have nab:l2a≠l1a:=fun z=>by rw [z,af] at hb1; cases hb1
  rw [aq nab] at hb1
  have nb:l2a≠p:=fun z=>by rw [z,af] at hb1; cases hb1
  have fb:H l2a=none:=by rw [aq nb] at hb1; exact hb1
  have hc0:=hc
  have ncb:l3a≠l2a:=fun z=>by rw [z,af] at hc0; cases hc0
  rw [aq ncb] at hc0
  have nca:l3a≠l1a:=fun z=>by rw [z,af] at hc0; cases hc0
  rw [aq nca] at hc0
  have nc:l3a≠p:=fun z=>by rw [z,af] at hc0; cases hc0
  have fc:H l3a=none:=by rw [aq nc] at hc0; exact hc0
  rw [show((c:Int) - 1).toNat=c - 1 by omega,qJ]
  refine⟨l1a,l3a,_,_,rfl,rfl,(by rw [aq nca.symm,aq nab.symm,af]),af,?_,fun ls hd=>?_⟩
  ·rw [List.length_replicate]
   show 1+(c - 1)≤sizeLine
   have:=bc (n:=1+(c - 1)) (by omega)
   omega
  have hd0:=hd
  have ndc:ls≠l3a:=fun z=>by rw [z,af] at hd0; cases hd0
  rw [aq ndc] at hd0
  have ndb:ls≠l2a:=fun z=>by rw [z,af] at hd0; cases hd0
  rw [aq ndb] at hd0
  have nda:ls≠l1a:=fun z=>by rw [z,af] at hd0; cases hd0
  rw [aq nda] at hd0
  have nd:ls≠p:=fun z=>by rw [z,af] at hd0; cases hd0
  have fd':H ls=none:=by rw [aq nd] at hd0; exact hd0
  have l2:=ln "slots" (.ref ls) _ _ l1
  refine⟨_,rfl,p,_,dx,_,rfl,(by rw [aq nd.symm,aq nc.symm,aq nb.symm,aq na.symm,af]),T.bj,T.n_Desk_slots,Nat.lt_of_le_of_lt l1 (by decide),?_⟩
  have l3:=ln "hand" .non _ _ l2
  refine⟨_,rfl,p,_,dx,_,rfl,af,T.bj,T.n_Desk_hand,Nat.lt_of_le_of_lt l2 (by decide),?_⟩
  have l4:=ln "left" v1 _ _ l3
  refine⟨_,rfl,_,rfl,p,_,dx,_,rfl,af,T.bj,T.n_Desk_left,Nat.lt_of_le_of_lt l3 (by decide),?_⟩
  have l5:=ln "stepped" (.int 0) _ _ l4
  refine⟨_,rfl,p,_,dx,_,rfl,af,T.bj,T.n_Desk_stepped,Nat.lt_of_le_of_lt l4 (by decide),?_⟩
  refine⟨(by show 0≤sizeLine; decide),fun lt he=>⟨_,rfl,p,_,dx,_,rfl,(Same.new he) _ _ af,T.bj,T.n_Desk_turned,Nat.lt_of_le_of_lt l5 (by decide),?_⟩⟩
  have ne:lt≠p:=fun z=>by rw [z,af] at he; cases he
  have he0:=he
  rw [aq ne,aq ne,aq ne,aq ne] at he0
  have ned:lt≠ls:=fun z=>by rw [z,af] at he0; cases he0
  rw [aq ned] at he0
  have nec:lt≠l3a:=fun z=>by rw [z,af] at he0; cases he0
  rw [aq nec] at he0
  have neb:lt≠l2a:=fun z=>by rw [z,af] at he0; cases he0
  rw [aq neb] at he0
  have nea:lt≠l1a:=fun z=>by rw [z,af] at he0; cases he0
  rw [aq nea] at he0
  have fe:H lt=none:=by rw [aq ne] at he0; exact he0
  refine k _ ls lt (by rw [af,KC]) ?_ ?_ fd' fe ned.symm fun b o e hb=>?_
  ·rw [aq nd,aq ned.symm,aq nd,aq nd,aq nd,aq nd,af]
   rfl
  ·rw [aq ne,af]
  ·rw [aq hb,aq (az e fe),aq hb,aq hb,aq hb,aq hb,aq (az e fd'),aq (az e fc),aq (az e fb),aq (az e fa),aq hb]
   exact e
noncomputable abbrev eH:Stmt:=bO (top 98) 0
theorem mo:aD ["self"] ["self"] (aw eH):=⟨rfl,rfl,rfl,by decide +kernel,rfl,by decide +kernel,by decide +kernel⟩
theorem Kp (v1 v2 v3:V):bD "columns" v3 (bD "run" v2 (bD "chain" v1 []))=holdK.zip [v1,v2,v3]:=by
 have e1:bD "chain" v1 []=(["chain"]:List Str).zip [v1]:=rfl
 have e2:=p8 (f:="run") (v:=v2) (ks:=["chain"]) (vs:=[v1]) (by decide +kernel) rfl
 have e3:=p8 (f:="columns") (v:=v3) (ks:=["chain","run"]) (vs:=[v1,v2]) (by decide +kernel) rfl
 rw [e1,e2]
 exact e3
noncomputable def rp (C:Addr):Sp:=fun vs H Q _=>∃(p dx:Addr),vs=[.ref p]∧H p=some (.ins C dx [])∧∀(H':Hp) (lk:Addr),H' p=some (.ins C dx (holdK.zip [.non,.non,.ref lk]))→H' lk=some (.lst [])→H lk=none→SameX p H H'→Q .non H'
theorem sj {f:Addr} {fd:FuncData} (T:Tx P K mg base ad) (F:Fun K "__init__" "Holder.__init__" eH f fd):FnOk P w K mg base CX0 40 f fd ["self"] (rp (ad.cls "Holder")):=by
 refine F.ok mo (fun vs H Q E h=>?_) (fun cdv A outer s H vs Q E hr h=>?_)
 ·obtain⟨_,_,rfl,_⟩:=h; rfl
 ·obtain⟨p,dx,rfl,hp,k⟩:=h
  refine⟨_,(ag (b5 (pv 0) bM rfl)
   (ag (b5 (pv 0) bM rfl)
   (aj (b5 (pv 0) (aN ah) rfl)))),?_⟩
  have ln:∀(f:Str) (v:V) (fs:List (Str×V)) (n:Nat),fs.length≤n→(bD f v fs).length≤n+1:=fun f v fs n h=>Nat.le_trans (cI ..) (Nat.succ_le_succ h)
  have l1:=ln "chain" .non [] 0 (Nat.le_refl _)
  have l2:=ln "run" .non _ _ l1
  refine⟨_,rfl,p,_,dx,_,rfl,hp,T.aH,T.n_Holder_chain,(by show 0 < 1000; decide),?_⟩
  refine⟨_,rfl,p,_,dx,_,rfl,af,T.aH,T.n_Holder_run,Nat.lt_of_le_of_lt l1 (by decide),?_⟩
  refine⟨(by show 0≤sizeLine; decide),fun lk h1=>⟨_,rfl,p,_,dx,_,rfl,(Same.new h1) _ _ af,T.aH,T.n_Holder_columns,Nat.lt_of_le_of_lt l2 (by decide),?_⟩⟩
  have n1:lk≠p:=fun z=>by rw [z,af] at h1; cases h1
  have h1a:=h1
  rw [aq n1,aq n1] at h1a
  refine k _ lk (by rw [af,Kp]) (by rw [aq n1,af]) h1a fun b o e hb=>?_
  rw [aq hb,aq (az e h1a),aq hb,aq hb]
  exact e
end
end B
namespace B
open PySem PySem.Spec PyProof.Rows L2
open Vagrag (Game actTold)
section
variable {P:Program} {w:World} {K:PySem.W.Frag} {mg:Str→Option Value} {base:Heap} {ad:Ad}
noncomputable abbrev ig:Stmt:=top 15
theorem sc_read_acts:aD ["numbers","acts","act"] ["numbers"] (aw ig):=⟨rfl,rfl,rfl,by decide +kernel,rfl,by decide +kernel,by decide +kernel⟩
noncomputable def pO (K:PySem.W.Frag):Rep (List Vagrag.Act):=fun H v a=>b0 K (rTI K) H v (a.map actTold)
noncomputable def ng (K:PySem.W.Frag):Sp:=bP (fun (x:List Int) vs H=>∃v,vs=[v]∧rLI K H v x∧x.length≤100000) (fun x r H=>cf (pO K) H r (Vagrag.actsOf x))
theorem Io {l:List Int} {m:Int} (hm:m∈l) (h:∀y,y∈l→m≤y):decide (m < 0)=BM.bad l:=by
 unfold BM.bad
 cases q:l.any (fun x=>decide (x < 0)) with
 | true=>
  obtain⟨x,hx,e⟩:=List.any_eq_true.mp q
  have:=of_decide_eq_true e
  have:=h x hx
  exact decide_eq_true (by omega)
 | false=>
  refine decide_eq_false fun z=>?_
  have:=List.any_eq_false.mp q m hm
  exact this (decide_eq_true z)
theorem wG {f:Addr} {fd:FuncData} (T:Tx P K mg base ad) (F:Fun K "read_acts" "read_acts" ig f fd) (vA:Fb P w K mg base 40 "cut" ["numbers","lengths"] (yH K)):FnOk P w K mg base CX0 41 f fd ["numbers"] (ng K):=by
 refine bb (F.ok sc_read_acts (fun vs H Q E h=>?_) (fun cdv A outer s H vs Q E hr h=>?_))
 ·obtain⟨x,⟨_,rfl,_⟩,_⟩:=h; rfl
 ·obtain⟨ns,⟨v,rfl,⟨a,rfl,ha⟩,hn⟩,k⟩:=h
  have hn:ns.length≤100000:=hn
  refine⟨_,(ag (aF (i:=1) sc_read_acts.nd rfl (Or.inl rfl) (aP vA (hr.mono (by decide)) rfl (aa (pv 0) (aa (kr rfl T.fV) ah))))
   (ag (aS (PW.pt (ko (aE eM (pv 1) bM (aK _)) (gR (aW (ba (KH rfl) rfl T.DL G3 (aa (eK (own:=[("act",2)]) rfl sc_read_acts.nd (bQ (pv 1)) (bH (N:=["numbers","acts","act"]) (sc:=aw ig) (by decide +kernel)) (fun _ _ _ _ _=>(a7 (i:=2) sc_read_acts.nd rfl (Or.inl rfl) (hf:=Or.inr rfl))) (fun _ _ _ _ _=>cn) (fun _ _ _ _ _=>(nv r8 (ba (Lx (K:=K) rfl rfl) rfl T.tK nW (aa (pv 2) ah)) am (aK _)))) ah)) (fun _=>rfl))))) (aj (ay bM)) aC)
   (aj (ay (pv 1))))),?_⟩
  refine⟨_,rfl,?_⟩
  refine(show yH K [.ref a,.ref ad.bL] H _ E0 from bZ (ns,BM.ALENS) ⟨_,_,rfl,⟨a,rfl,ha⟩,⟨ad.bL,rfl,T.fR.sq _⟩,Ff,hn⟩ fun H2 r s2 h2=>?_)
  have h2:cf (b0 K (rTI K)) H2 r (BM.cB BM.ALENS ns):=h2
  rcases BM.Cv ns.length ns (Nat.le_refl _) with⟨hc,hraw⟩ | ⟨c,hc,hraw⟩
  ·rw [hc] at h2
   have h2:r=.non:=h2
   subst h2
   refine⟨_,rfl,rfl,_,rfl,cp rfl (gy (k _ _ s2 ?_))⟩
   show cf _ _ .non (Vagrag.actsOf ns)
   rw [hraw]
   rfl
  ·rw [hc] at h2
   obtain⟨hne,al,us,rfl,hal,hp⟩:=h2
   have hp:Paired (rTI K H2) us c:=hp
   obtain⟨hpc,hcl⟩:=BM.kT BM.ALENS ns.length ns c (Nat.le_refl _) hc
   refine⟨_,rfl,rfl,_,rfl,aM hne ?_⟩
   refine⟨_,rfl,al,rfl,⟨_,hal⟩,fun D hD=>?_⟩
   have hD:H2 D=none:=hD
   refine dD (K:=K) (a:=al) (xs:=us) (fun i H3=>Same H2 H3∧H3 D=some (.lst (((c.take i).map BM.bad).map V.bl))) ⟨Same.new hD,af⟩ (fun i H3 _ ⟨s1,_⟩=>s1.seq hal) ?_ ?_
   ·rintro i x H3 hx ⟨s1,hv⟩
    obtain⟨l,hl,p,rfl,hp'⟩:=bY hp hx
    obtain⟨op,rr,rfl,o0,o1,o2⟩:=hpc l (List.mem_of_getElem? hl)
    refine⟨rfl,_,rfl,p,op::rr,rfl,s1.tup hp',(by simp),fun m hm hmin=>⟨_,_,rfl,rfl,_,hv,?_,s1.upd1 hD,?_⟩⟩
    ·have:=(List.getElem?_eq_some_iff.mp hl).1
     rw [List.length_map,List.length_map,List.length_take]; exact bc (by omega)
    ·rw [af,lx hl,List.map_append]
     show some (HO.lst (_++[V.bl (decide (m < 0))]))=_
     rw [Io hm hmin]
     rfl
   ·rintro H3 ⟨s1,hv⟩
    rw [aJ hp,List.take_length] at hv
    refine⟨D,_,rfl,SqL.of hv,_,rfl,?_⟩
    rw [KK]
    rcases hraw with⟨h1,h3⟩ | ⟨h1,al',h3,h4⟩
    ·rw [h1]
     refine gy (k _ _ (s2.trans s1) ?_)
     show cf _ _ .non (Vagrag.actsOf ns)
     rw [h3]
     rfl
    ·rw [h1]
     refine jq ⟨_,rfl,k _ _ (s2.trans s1) ?_⟩
     show cf _ _ (.ref al) (Vagrag.actsOf ns)
     rw [h3]
     refine⟨hne,al,us,rfl,s1.seq hal,?_⟩
     rw [←h4]
     exact aT mTI s1 hp
noncomputable abbrev kf:Stmt:=top 16
theorem sc_told_acts:aD ["acts","numbers","act"] ["acts"] (aw kf):=⟨rfl,rfl,rfl,by decide +kernel,rfl,by decide +kernel,by decide +kernel⟩
noncomputable def vZ (K:PySem.W.Frag):Sp:=bP (fun (x:List Vagrag.Act) vs H=>∃v,vs=[v]∧pO K H v x∧x.length≤100000) (fun x r H=>∃a,r=.ref a∧H a=some (.lst ((x.flatMap actTold).map V.int)))
theorem m8:∀l:List Vagrag.Act,(l.flatMap actTold).length≤2*l.length
 | []=>Nat.le_refl _
 | a::r=>by
  rw [List.flatMap_cons,List.length_append,List.length_cons]
  have:=m8 r
  have h2:(actTold a).length≤2:=by cases a <;> exact Nat.le_of_lt_succ (by simp [Vagrag.actTold])
  omega
theorem on {α β:Type} {l:List α} {f:α→List β} {i:Nat} {x:α} (h:l[i]?= some x):(l.take (i+1)).flatMap f=(l.take i).flatMap f++f x:=by
 obtain⟨b1,b2⟩:=List.getElem?_eq_some_iff.mp h
 rw [List.take_succ_eq_append_getElem b1,List.flatMap_append,b2]
 simp
theorem wD {f:Addr} {fd:FuncData} (T:Tx P K mg base ad) (F:Fun K "told_acts" "told_acts" kf f fd):FnOk P w K mg base CX0 40 f fd ["acts"] (vZ K):=by
 refine bb (F.ok sc_told_acts (fun vs H Q E h=>?_) (fun cdv A outer s H vs Q E hr h=>?_))
 ·obtain⟨x,⟨_,rfl,_⟩,_⟩:=h; rfl
 ·obtain⟨acts,⟨v,rfl,⟨a,us,rfl,ha,hp⟩,hn⟩,k⟩:=h
  have hn:acts.length≤100000:=hn
  have hp:Paired (rTI K H) us (acts.map actTold):=hp
  refine⟨_,(ag (aF (i:=1) sc_told_acts.nd rfl (Or.inl rfl) (aN ah))
   (ag (cV PassesOwn.never rfl (bQ (pv 0)) (a7 (i:=2) sc_told_acts.nd rfl (Or.inl rfl) (hf:=Or.inl rfl))
    (aj (bX (d9 PySem.F.plainAttrs_list PySem.F.slot_list_extend PySem.F.type_list_extend sA (pv 1) (aa (pv 2) ah)))))
   (aj (ay (pv 1))))),?_⟩
  refine⟨Nat.zero_le _,fun l hl'=>?_⟩
  have nl:H l=none:=hl'
  refine⟨_,rfl,a,rfl,⟨_,(Same.new nl).seq ha⟩,?_⟩
  refine eZ (K:=K) (a:=a) (xs:=us) (fun i σ H'=>∃v2:Option V,σ=[some (.ref a),some (.ref l),v2]∧Same H H'∧H' l=some (.lst (((acts.take i).flatMap actTold).map V.int)))
   ⟨none,rfl,Same.new nl,af⟩ (fun i σ H' _ ⟨_,_,hs,_⟩=>hs.seq ha) ?_ ?_
  ·rintro i x σ H' hx ⟨v2,rfl,hs,hv⟩
   obtain⟨ns,hns,p,rfl,hp'⟩:=bY hp hx
   rw [List.getElem?_map] at hns
   cases hi:acts[i]? with
   | none=>rw [hi] at hns; cases hns
   | some ac=>
    rw [hi] at hns
    have hns:actTold ac=ns:=Option.some.inj hns
    subst hns
    have hlt:=(List.getElem?_eq_some_iff.mp hi).1
    refine⟨_,rfl,.inl ⟨rfl,_,SqL.of hv⟩,_,rfl,l,p,_,_,rfl,rfl,hv,hs.tup hp',?_,_,rfl,hs.upd1 nl,?_⟩
    ·have h1:=m8 (acts.take (i+1))
     rw [on hi,List.length_append,List.length_take] at h1
     rw [List.length_map,List.length_map]
     have:=bc (n:=2*(i+1))
     rw [sizeLine_eq]
     omega
    ·rw [af,on hi,List.map_append]
  ·rintro σ H' ⟨v2,rfl,hs,hv⟩
   rw [aJ hp,List.length_map,List.take_length] at hv
   exact⟨_,rfl,k _ _ hs ⟨l,rfl,hv⟩⟩
noncomputable def fX:Option Nat→V
 | none=>.non
 | some i=>.int (i:Int)
noncomputable def nD (l:List Nat):List V:=l.map fun (i:Nat)=>V.int (i:Int)
structure DeskAt (C p dx ls lt:Addr) (n:Nat) (g:Game) (H:Hp):Prop where
 obj:H p=some (.ins C dx (deskK.zip [.int (n:Int),.ref ls,fX g.hand,.int (g.left:Int),.int (g.forward:Int),.ref lt]))
 slots:H ls=some (.lst (g.slots.map fX))
 turned:H lt=some (.lst (nD (BM.fK n g.left)))
 ne:ls≠lt
noncomputable def Same3 (p ls lt:Addr) (H H':Hp):Prop:=∀b o,H b=some o→b≠p→b≠ls→b≠lt→H' b=some o
theorem Same3.refl {p ls lt:Addr} (H:Hp):Same3 p ls lt H H:=fun _ _ e _ _ _=>e
theorem Same3.trans {p ls lt:Addr} {H H1 H2:Hp} (a:Same3 p ls lt H H1) (b:Same3 p ls lt H1 H2):Same3 p ls lt H H2:=fun c o e h1 h2 h3=>b c o (a c o e h1 h2 h3) h1 h2 h3
theorem _root_.L2.Same.s3 {p ls lt:Addr} {H H':Hp} (s:Same H H'):Same3 p ls lt H H':=fun b o e _ _ _=>s b o e
theorem DeskAt.mono {C p dx ls lt:Addr} {n:Nat} {g:Game} {H H':Hp} (d:DeskAt C p dx ls lt n g H) (s:Same H H'):DeskAt C p dx ls lt n g H':=⟨s _ _ d.obj,s _ _ d.slots,s _ _ d.turned,d.ne⟩
noncomputable abbrev at2 (a b:Addr):Addr→Bool:=fun c=>decide (c=a) || decide (c=b)
theorem at2_false {a b c:Addr}:at2 a b c=false↔c≠a∧c≠b:=by
 unfold at2
 rw [Bool.or_eq_false_iff,decide_eq_false_iff_not,decide_eq_false_iff_not]
theorem sq3 {p ls lt a:Addr} {H H':Hp} {xs:List V} {o:HO} (s:Same3 p ls lt H H') (hp:H p=some o) (ho:∀ys,o≠.lst ys) (ho':∀q ys,o≠.frz q ys) (h:SqL K (hide (at2 ls lt) H) a xs):SqL K (hide (at2 ls lt) H') a xs:=by
 rcases h with(h | ⟨u,h⟩) | h
 ·obtain⟨h1,h2⟩:=cz h
  obtain⟨h3,h4⟩:=at2_false.mp h1
  exact .inl (.inl (by rw [bw h1]; exact s _ _ h2 (fun z=>by rw [z,hp] at h2; exact ho _ (Option.some.inj h2)) h3 h4))
 ·obtain⟨h1,h2⟩:=cz h
  obtain⟨h3,h4⟩:=at2_false.mp h1
  exact .inl (.inr ⟨u,by rw [bw h1]; exact s _ _ h2 (fun z=>by rw [z,hp] at h2; exact ho' _ _ (Option.some.inj h2)) h3 h4⟩)
 ·exact .inr h
theorem tp3 {p ls lt a:Addr} {H H':Hp} {xs:List V} {o:HO} (s:Same3 p ls lt H H') (hp:H p=some o) (ho:∀ys,o≠.tup ys) (ho':∀q ys,o≠.frz q ys) (h:SqT K (hide (at2 ls lt) H) a xs):SqT K (hide (at2 ls lt) H') a xs:=by
 rcases h with(h | ⟨u,h⟩) | h
 ·obtain⟨h1,h2⟩:=cz h
  obtain⟨h3,h4⟩:=at2_false.mp h1
  exact .inl (.inl (by rw [bw h1]; exact s _ _ h2 (fun z=>by rw [z,hp] at h2; exact ho _ (Option.some.inj h2)) h3 h4))
 ·obtain⟨h1,h2⟩:=cz h
  obtain⟨h3,h4⟩:=at2_false.mp h1
  exact .inl (.inr ⟨u,by rw [bw h1]; exact s _ _ h2 (fun z=>by rw [z,hp] at h2; exact ho' _ _ (Option.some.inj h2)) h3 h4⟩)
 ·exact .inr h
theorem CT {g:Game} {k:Nat} (h:k < g.slots.length):(g.slots.map fX)[k]?= some (fX (g.slots.getD k none)):=by
 rw [List.getElem?_map,List.getD_eq_getElem?_getD,List.getElem?_eq_getElem h]
 rfl
noncomputable abbrev ft:Stmt:=top 18
theorem sc_reason_against:aD ["desk","act","kind"] ["desk","act"] (aw ft):=⟨rfl,rfl,rfl,by decide +kernel,rfl,by decide +kernel,by decide +kernel⟩
noncomputable def yC (K:PySem.W.Frag) (C:Addr):Sp:=fun vs H Q _=>∃(p dx ls lt:Addr) (v:V) (n c:Nat) (g:Game) (a:Vagrag.Act),vs=[.ref p,v]∧DeskAt C p dx ls lt n g H∧BM.GOk n c g∧rTI K H v (actTold a)∧∀H',Same H H'→Q (.int (BM.be n g a:Nat)) H'
theorem nz {f:Addr} {fd:FuncData} (T:Tx P K mg base ad) (F:Fun K "reason_against" "reason_against" ft f fd):FnOk P w K mg base CX0 40 f fd ["desk","act"] (yC K (ad.cls "Desk")):=by
 refine F.ok sc_reason_against (fun vs H Q E h=>?_) (fun cdv A outer s H vs Q E hr h=>?_)
 ·obtain⟨_,_,_,_,_,_,_,_,_,rfl,_⟩:=h; rfl
 ·obtain⟨p,dx,ls,lt,v,n,c,g,a,rfl,d,ok,⟨pa,rfl,hpa⟩,k⟩:=h
  refine⟨_,(ag (aF (i:=2) sc_reason_against.nd rfl (Or.inl rfl) (aA aG (pv 1) am (fun _ _=>rfl)))
   (ag (aS (PW.pt (Bl (aE Ej (pv 2) (bq (aa (aO rfl T.kM) (aa (aO rfl T.oZ) ah))) rfl) (wy (aE za (aA aG (pv 1) am (fun _ _=>rfl)) (ba (iX (K:=K) rfl) rfl T.du PySem.boot_len (aa (aV (pv 0) rfl) ah)) (aK _))))) (aj (ay (aO rfl T.lM))) aC)
   (ag (aS (aE bN (pv 2) (aO rfl T.kM) (aK _)) (aj (ay (iW (aE eM (aA aQ (aV (pv 0) rfl) (aA aG (pv 1) am (fun _ _=>rfl)) (fun _ _=>rfl)) bM (aK _)) (aO rfl T.dW) am))) aC)
   (ag (aS (aE eM (aV (pv 0) rfl) bM (aK _)) (aj (ay (aO rfl T.de))) aC)
   (ag (aS (PW.pt (Bl (aE bN (pv 2) (aO rfl T.mS) (aK _)) (wy (aE bN (aV (pv 0) rfl) (aV (pv 0) rfl) (aK _))))) (aj (ay (aO rfl T.eW))) aC)
   (ag (aS (PW.pt (Bl (aE bN (pv 2) (aO rfl T.sT) (aK _)) (wy (aE Ga (aR cu (aV (pv 0) rfl) am) (aV (pv 0) rfl) (aK _))))) (aj (ay (aO rfl T.dX))) aC)
   (aj (ay am)))))))),?_⟩
  have fld:∀{H':Hp},Same H H'→H' p=some (.ins (ad.cls "Desk") dx (deskK.zip [.int (n:Int),.ref ls,fX g.hand,.int (g.left:Int),.int (g.forward:Int),.ref lt])):=fun s'=>s' _ _ d.obj
  have l_slots:(deskK.zip [.int (n:Int),.ref ls,fX g.hand,.int (g.left:Int),.int (g.forward:Int),.ref lt]).lookup ("slots": Str)=some (.ref ls):=cF df (i:=1) rfl rfl
  have l_hand:(deskK.zip [.int (n:Int),.ref ls,fX g.hand,.int (g.left:Int),.int (g.forward:Int),.ref lt]).lookup ("hand": Str)=some (fX g.hand):=cF df (i:=2) rfl rfl
  have l_steps:(deskK.zip [.int (n:Int),.ref ls,fX g.hand,.int (g.left:Int),.int (g.forward:Int),.ref lt]).lookup ("steps": Str)=some (.int (n:Int)):=cF df (i:=0) rfl rfl
  have l_left:(deskK.zip [.int (n:Int),.ref ls,fX g.hand,.int (g.left:Int),.int (g.forward:Int),.ref lt]).lookup ("left": Str)=some (.int (g.left:Int)):=cF df (i:=3) rfl rfl
  have hl:(g.slots.map fX).length=g.slots.length:=List.length_map ..
  cases a with
  | take j=>
   have hpa:SqT K H pa [.int 0,.int (j:Int)]:=hpa
   refine⟨_,rfl,pa,_,0,_,rfl,rfl,hpa,rfl,?_⟩
   refine⟨_,rfl,(by show 2≤sizeLine; decide),fun t ht=>⟨t,_,rfl,.inr (SqT.of af),rfl,rfl,_,rfl,?_⟩⟩
   have s1:Same H (upd H t (.tup [.int 0,.int 1])):=Same.new ht
   refine gy ⟨_,rfl,pa,_,1,_,rfl,rfl,s1.tup hpa,rfl,_,rfl,p,_,dx,_,_,rfl,fld s1,T.bj,T.n_Desk_slots,l_slots,ls,_,rfl,.inl (SqL.of (s1 _ _ d.slots)),_,_,rfl,rfl,_,rfl,dH (fun h1=>?_) fun h1=>?_⟩
   ·have e:BM.be n g (.take j)=1:=by unfold BM.be Vagrag.act; simp only; rw [if_pos (by rw [hl] at h1; omega)]
    have:=k _ s1
    rw [e] at this
    exact this
   ·rw [hl] at h1
    refine⟨_,rfl,rfl,_,rfl,cp rfl ?_⟩
    refine⟨_,rfl,p,_,dx,_,_,rfl,fld s1,T.bj,T.n_Desk_slots,l_slots,_,rfl,pa,_,1,_,rfl,rfl,s1.tup hpa,rfl,ls,_,_,_,rfl,rfl,SqL.of (s1 _ _ d.slots),bW rfl (CT (k:=j) (by omega)),rfl,_,rfl,?_⟩
    cases hs:g.slots.getD j none with
    | none=>
     have e:BM.be n g (.take j)=2:=by unfold BM.be Vagrag.act; simp only; rw [if_neg (by omega),hs]
     have:=k _ s1
     rw [e] at this
     exact cp rfl this
    | some i=>
     have e:BM.be n g (.take j)=0:=by unfold BM.be Vagrag.act; simp only; rw [if_neg (by omega),hs]
     have:=k _ s1
     rw [e] at this
     exact aM (fun z=>by cases z) this
  | keep j=>
   have hpa:SqT K H pa [.int 1,.int (j:Int)]:=hpa
   refine⟨_,rfl,pa,_,0,_,rfl,rfl,hpa,rfl,?_⟩
   refine⟨_,rfl,(by show 2≤sizeLine; decide),fun t ht=>⟨t,_,rfl,.inr (SqT.of af),rfl,rfl,_,rfl,?_⟩⟩
   have s1:Same H (upd H t (.tup [.int 0,.int 1])):=Same.new ht
   refine gy ⟨_,rfl,pa,_,1,_,rfl,rfl,s1.tup hpa,rfl,_,rfl,p,_,dx,_,_,rfl,fld s1,T.bj,T.n_Desk_slots,l_slots,ls,_,rfl,.inl (SqL.of (s1 _ _ d.slots)),_,_,rfl,rfl,_,rfl,dH (fun h1=>?_) fun h1=>?_⟩
   ·have e:BM.be n g (.keep j)=1:=by unfold BM.be Vagrag.act; simp only; rw [if_pos (by rw [hl] at h1; omega)]
    have:=k _ s1
    rw [e] at this
    exact this
   ·rw [hl] at h1
    refine⟨_,rfl,rfl,_,rfl,aM (by decide) ?_⟩
    refine⟨_,rfl,p,_,dx,_,_,rfl,fld s1,T.bj,T.n_Desk_hand,l_hand,rfl,_,rfl,?_⟩
    cases hs:g.hand with
    | none=>
     have e:BM.be n g (.keep j)=3:=by unfold BM.be Vagrag.act; simp only; rw [if_neg (by omega),hs]
     have:=k _ s1
     rw [e] at this
     exact cp rfl this
    | some i=>
     have e:BM.be n g (.keep j)=0:=by unfold BM.be Vagrag.act; simp only; rw [if_neg (by omega),hs]
     have:=k _ s1
     rw [e] at this
     refine aM (fun z=>by cases z) ?_
     refine⟨_,rfl,rfl,_,rfl,aM (by decide) (jq ?_)⟩
     exact⟨_,rfl,rfl,_,rfl,aM (by decide) (jq this)⟩
  | step=>
   have hpa:SqT K H pa [.int 2]:=hpa
   refine⟨_,rfl,pa,_,0,_,rfl,rfl,hpa,rfl,?_⟩
   refine⟨_,rfl,(by show 2≤sizeLine; decide),fun t ht=>⟨t,_,rfl,.inr (SqT.of af),rfl,rfl,_,rfl,?_⟩⟩
   have s1:Same H (upd H t (.tup [.int 0,.int 1])):=Same.new ht
   refine jq (jq ⟨_,rfl,rfl,_,rfl,aM (by decide) ?_⟩)
   refine⟨_,rfl,p,_,dx,_,_,rfl,fld s1,T.bj,T.n_Desk_hand,l_hand,rfl,_,rfl,?_⟩
   cases hs:g.hand with
   | none=>
    have e:BM.be n g .step=3:=by unfold BM.be Vagrag.act; simp only; rw [hs]
    have:=k _ s1
    rw [e] at this
    exact cp rfl this
   | some i=>
    rw [hs] at l_hand fld
    refine aM (fun z=>by cases z) ?_
    refine⟨_,rfl,rfl,_,rfl,cp rfl ⟨_,rfl,p,_,dx,_,.int (i:Int),rfl,fld s1,T.bj,T.n_Desk_hand,cF df (i:=2) rfl rfl,_,rfl,p,_,dx,_,.int (n:Int),rfl,fld s1,T.bj,T.n_Desk_steps,cF df (i:=0) rfl rfl,rfl,_,rfl,dH (fun h1=>?_) fun h1=>?_⟩⟩
    ·injection h1 with h1
     have e:BM.be n g .step=4:=by unfold BM.be Vagrag.act; simp only; rw [hs]; simp only; rw [if_pos (by omega)]
     have:=k _ s1
     rw [e] at this
     exact this
    ·have hle:=ok.hand i hs
     have h1:i≠n:=fun z=>h1 (by rw [z])
     have e:BM.be n g .step=0:=by unfold BM.be Vagrag.act; simp only; rw [hs]; simp only; rw [if_neg (by omega)]
     have:=k _ s1
     rw [e] at this
     exact⟨_,rfl,rfl,_,rfl,aM (by decide) (jq this)⟩
  | turn=>
   have hpa:SqT K H pa [.int 3]:=hpa
   refine⟨_,rfl,pa,_,0,_,rfl,rfl,hpa,rfl,?_⟩
   refine⟨_,rfl,(by show 2≤sizeLine; decide),fun t ht=>⟨t,_,rfl,.inr (SqT.of af),rfl,rfl,_,rfl,?_⟩⟩
   have s1:Same H (upd H t (.tup [.int 0,.int 1])):=Same.new ht
   refine jq (jq ⟨_,rfl,rfl,_,rfl,aM (by decide) ?_⟩)
   refine⟨_,rfl,p,_,dx,_,_,rfl,fld s1,T.bj,T.n_Desk_hand,l_hand,rfl,_,rfl,?_⟩
   cases hs:g.hand with
   | none=>
    have e:BM.be n g .turn=3:=by unfold BM.be Vagrag.act; simp only; rw [hs]
    have:=k _ s1
    rw [e] at this
    exact cp rfl this
   | some i=>
    rw [hs] at l_hand fld
    refine aM (fun z=>by cases z) ?_
    refine⟨_,rfl,rfl,_,rfl,aM (by decide) (jq ?_)⟩
    refine⟨_,rfl,rfl,_,rfl,cp rfl ⟨_,rfl,p,_,dx,_,.int (i:Int),rfl,fld s1,T.bj,T.n_Desk_hand,cF df (i:=2) rfl rfl,_,_,rfl,rfl,_,rfl,p,_,dx,_,.int (g.left:Int),rfl,fld s1,T.bj,T.n_Desk_left,cF df (i:=3) rfl rfl,rfl,_,rfl,dQ (fun h1=>?_) fun h1=>?_⟩⟩
    ·have h1:i+1≠g.left:=fun z=>h1 (by show V.int ((i:Int)+1)=V.int (g.left:Int); rw [←z]; rfl)
     have e:BM.be n g .turn=5:=by unfold BM.be Vagrag.act; simp only; rw [hs]; simp only; rw [if_neg h1]
     have:=k _ s1
     rw [e] at this
     exact this
    ·injection h1 with h1
     have e:BM.be n g .turn=0:=by unfold BM.be Vagrag.act; simp only; rw [hs]; simp only; rw [if_pos (by omega)]
     have:=k _ s1
     rw [e] at this
     exact this
noncomputable abbrev rO:Stmt:=top 19
theorem sc_do_act:aD ["desk","act","kind"] ["desk","act"] (aw rO):=⟨rfl,rfl,rfl,by decide +kernel,rfl,by decide +kernel,by decide +kernel⟩
noncomputable def Le (K:PySem.W.Frag) (C:Addr):Sp:=fun vs H Q _=>∃(p dx ls lt:Addr) (v:V) (n c:Nat) (g g':Game) (a:Vagrag.Act),vs=[.ref p,v]∧DeskAt C p dx ls lt n g H∧BM.GOk n c g∧n≤1000∧rTI K H v (actTold a)∧Vagrag.act n g a=.ok g'∧∀H',DeskAt C p dx ls lt n g' H'→Same3 p ls lt H H'→Q .non H'
theorem Eo {f:Addr} {fd:FuncData} (T:Tx P K mg base ad) (F:Fun K "do_act" "do_act" rO f fd):FnOk P w K mg base CX0 40 f fd ["desk","act"] (Le K (ad.cls "Desk")):=by
 refine F.ok sc_do_act (fun vs H Q E h=>?_) (fun cdv A outer s H vs Q E hr h=>?_)
 ·obtain⟨_,_,_,_,_,_,_,_,_,_,rfl,_⟩:=h; rfl
 ·obtain⟨p,dx,ls,lt,v,n,c,g,g',a,rfl,d,ok,hn,⟨pa,rfl,hpa⟩,ha,k⟩:=h
  refine⟨_,(ag (aF (i:=2) sc_do_act.nd rfl (Or.inl rfl) (aA aG (pv 1) am (fun _ _=>rfl)))
   (aj (aS (aE bN (pv 2) (aO rfl T.kM) (aK _)) (aj (b5 (pv 0) (aA aQ (aV (pv 0) rfl) (aA aG (pv 1) am (fun _ _=>rfl)) (fun _ _=>rfl)) rfl)) (aj (aS (aE bN (pv 2) (aO rfl T.oZ) (aK _)) (aj (J4 (aV (pv 0) rfl) (J6 (aV (pv 0) rfl) (aA aG (pv 1) am (fun _ _=>rfl)) FR))) (aj (aS (aE bN (pv 2) (aO rfl T.mS) (aK _)) (ag (u9 (pv 0) am Gw)
      (aj (u9 (pv 0) am Gw))) (ag (bX (d9 PySem.F.plainAttrs_list PySem.F.slot_list_append PySem.F.type_list_append b9 (aV (pv 0) rfl) (aa (aV (pv 0) rfl) ah)))
      (aj (b5 (pv 0) (aV (pv 0) rfl) rfl)))))))))),?_⟩
  have npl:p≠ls:=fun z=>by have:=d.obj; rw [z,d.slots] at this; cases this
  have npt:p≠lt:=fun z=>by have:=d.obj; rw [z,d.turned] at this; cases this
  cases a with
  | take j=>
   have hpa:SqT K H pa [.int 0,.int (j:Int)]:=hpa
   unfold Vagrag.act at ha
   simp only at ha
   split at ha
   ·cases ha
   rename_i hj
   cases hs:g.slots.getD j none with
   | none=>rw [hs] at ha; cases ha
   | some i=>
    rw [hs] at ha
    have ha:({g with hand:=some i}:Game)=g':=by injection ha
    refine⟨_,rfl,pa,_,0,_,rfl,rfl,hpa,rfl,?_⟩
    refine⟨_,rfl,rfl,_,rfl,cp rfl ?_⟩
    refine⟨_,rfl,p,_,dx,_,_,rfl,d.obj,T.bj,T.n_Desk_slots,cF df (i:=1) rfl rfl,_,rfl,pa,_,1,_,rfl,rfl,hpa,rfl,ls,_,_,_,rfl,rfl,SqL.of d.slots,bW rfl (CT (k:=j) (by omega)),_,rfl,p,_,dx,_,rfl,d.obj,T.bj,T.n_Desk_hand,t7 (by decide),?_⟩
    refine k _ ⟨?_,by rw [aq npl.symm,←ha]; exact d.slots,by rw [aq npt.symm,←ha]; exact d.turned,d.ne⟩ fun b o e h1 _ _=>by rw [aq h1]; exact e
    rw [af,qV df (i:=2) rfl rfl,hs,←ha]
    rfl
  | keep j=>
   have hpa:SqT K H pa [.int 1,.int (j:Int)]:=hpa
   unfold Vagrag.act at ha
   simp only at ha
   split at ha
   ·cases ha
   rename_i hj
   cases hs:g.hand with
   | none=>rw [hs] at ha; cases ha
   | some i=>
    have ha:({g with slots:=g.slots.set j (some i)}:Game)=g':=by
     have h2:(Except.ok {g with slots:=g.slots.set j (some i)}:Except Nat Game)=.ok g':=by rw [←ha,hs]
     injection h2
    have dobj:=d.obj
    rw [hs] at dobj
    refine⟨_,rfl,pa,_,0,_,rfl,rfl,hpa,rfl,?_⟩
    refine⟨_,rfl,rfl,_,rfl,aM (by decide) ?_⟩
    refine⟨_,rfl,rfl,_,rfl,cp rfl ?_⟩
    refine⟨_,rfl,p,_,dx,_,.int (i:Int),rfl,dobj,T.bj,T.n_Desk_hand,cF df (i:=2) rfl rfl,_,rfl,p,_,dx,_,_,rfl,dobj,T.bj,T.n_Desk_slots,cF df (i:=1) rfl rfl,_,rfl,pa,_,1,_,rfl,rfl,hpa,rfl,ls,_,_,j,rfl,rfl,d.slots,?_,?_⟩
    ·unfold ixN
     rw [if_pos (by omega),List.length_map,if_pos (by omega)]
     rfl
    refine k _ ⟨?_,?_,by rw [aq d.ne.symm,←ha]; exact d.turned,d.ne⟩ fun b o e _ h2 _=>by rw [aq h2]; exact e
    ·rw [aq npl,dobj,←ha]
     show some (HO.ins _ _ (deskK.zip [_,_,fX (some i),_,_,_]))=some (HO.ins _ _ (deskK.zip [_,_,fX g.hand,_,_,_]))
     rw [hs]
    ·rw [af,←ha]
     show some (HO.lst ((g.slots.map fX).set j (.int (i:Int))))=some (HO.lst ((g.slots.set j (some i)).map fX))
     rw [List.map_set]
     rfl
  | step=>
   have hpa:SqT K H pa [.int 2]:=hpa
   unfold Vagrag.act at ha
   simp only at ha
   cases hs:g.hand with
   | none=>rw [hs] at ha; cases ha
   | some i=>
    rw [hs] at ha
    simp only at ha
    split at ha
    ·cases ha
    have ha:({g with hand:=some (i+1),forward:=g.forward+1}:Game)=g':=by injection ha
    have dobj:=d.obj
    rw [hs] at dobj
    refine⟨_,rfl,pa,_,0,_,rfl,rfl,hpa,rfl,?_⟩
    refine⟨_,rfl,rfl,_,rfl,aM (by decide) ?_⟩
    refine⟨_,rfl,rfl,_,rfl,aM (by decide) ?_⟩
    refine⟨_,rfl,rfl,_,rfl,cp rfl ?_⟩
    refine⟨_,rfl,p,_,dx,_,.int (i:Int),rfl,dobj,T.bj,T.n_Desk_hand,cF df (i:=2) rfl rfl,_,_,rfl,rfl,dx,_,dobj,t7 (by decide),?_⟩
    rw [qV df (i:=2) rfl rfl]
    refine⟨_,rfl,p,_,dx,_,.int (g.forward:Int),rfl,af,T.bj,T.n_Desk_stepped,cF df (i:=4) rfl rfl,_,_,rfl,rfl,dx,_,af,t7 (by decide),?_⟩
    rw [qV df (i:=4) rfl rfl]
    refine k _ ⟨?_,by rw [aq npl.symm,aq npl.symm,←ha]; exact d.slots,by rw [aq npt.symm,aq npt.symm,←ha]; exact d.turned,d.ne⟩ fun b o e h1 _ _=>by rw [aq h1,aq h1]; exact e
    rw [af,←ha]
    rfl
  | turn=>
   have hpa:SqT K H pa [.int 3]:=hpa
   unfold Vagrag.act at ha
   simp only at ha
   cases hs:g.hand with
   | none=>rw [hs] at ha; cases ha
   | some i=>
    rw [hs] at ha
    simp only at ha
    split at ha
    ·rename_i hi
     have ha:({g with left:=i}:Game)=g':=by
      injection ha with ha
      rw [←ha,←hs]
     have dobj:=d.obj
     rw [hs] at dobj
     have hleft:=ok.left
     refine⟨_,rfl,pa,_,0,_,rfl,rfl,hpa,rfl,?_⟩
     refine⟨_,rfl,rfl,_,rfl,aM (by decide) ?_⟩
     refine⟨_,rfl,rfl,_,rfl,aM (by decide) ?_⟩
     refine⟨_,rfl,rfl,_,rfl,aM (by decide) ?_⟩
     refine⟨_,rfl,p,_,dx,_,_,rfl,dobj,T.bj,T.n_Desk_turned,cF df (i:=5) rfl rfl,.inl ⟨rfl,_,SqL.of d.turned⟩,_,rfl,p,_,dx,_,.int (i:Int),rfl,dobj,T.bj,T.n_Desk_hand,cF df (i:=2) rfl rfl,lt,_,_,rfl,rfl,d.turned,?_,?_⟩
     ·unfold nD BM.fK
      rw [List.length_map,List.length_map,List.length_range]
      exact bc (by omega)
     have o2:upd H lt (.lst (nD (BM.fK n g.left)++[.int (i:Int)])) p=some (.ins (ad.cls "Desk") dx (deskK.zip [.int (n:Int),.ref ls,fX (some i),.int (g.left:Int),.int (g.forward:Int),.ref lt])):=by rw [aq npt]; exact dobj
     refine⟨_,rfl,p,_,dx,_,.int (i:Int),rfl,o2,T.bj,T.n_Desk_hand,cF df (i:=2) rfl rfl,_,rfl,p,_,dx,_,rfl,o2,T.bj,T.n_Desk_left,t7 (by decide),?_⟩
     rw [qV df (i:=3) rfl rfl]
     refine k _ ⟨?_,by rw [aq npl.symm,aq d.ne,←ha]; exact d.slots,?_,d.ne⟩ fun b o e h1 _ h3=>by rw [aq h1,aq h3]; exact e
     ·rw [af,←ha]
      show some (HO.ins _ _ (deskK.zip [_,_,fX (some i),_,_,_]))=some (HO.ins _ _ (deskK.zip [_,_,fX g.hand,_,_,_]))
      rw [hs]
     ·rw [aq npt.symm,af,←ha,←hi]
      show some (HO.lst (nD (BM.fK n (i+1))++[.int (i:Int)]))=some (HO.lst (nD (BM.fK n i)))
      rw [BM.zP (n:=n) (i:=i) (by omega)]
      unfold nD
      rw [List.map_append]
      rfl
    ·cases ha
noncomputable abbrev kg:Stmt:=top 17
theorem sc_play_acts:aD ["desk","acts","number","act","reason"] ["desk","acts"] (aw kg):=⟨rfl,rfl,rfl,by decide +kernel,rfl,by decide +kernel,by decide +kernel⟩
noncomputable def we (K:PySem.W.Frag) (C:Addr):Sp:=fun vs H Q _=>∃(p dx ls lt:Addr) (v:V) (n c:Nat) (g:Game) (acts:List Vagrag.Act),vs=[.ref p,v]∧DeskAt C p dx ls lt n g H∧BM.GOk n c g∧n≤1000∧pO K (hide (at2 ls lt) H) v acts∧acts.length≤100000∧
 ∀H' r,Same3 p ls lt H H'→(match Vagrag.playFrom n 0 g acts with | .ok g'=>DeskAt C p dx ls lt n g' H'∧∃l,r=.ref l∧H' l=some (.lst []) | .error (i,e)=>∃l,r=.ref l∧H' l=some (.lst [.int (i:Nat),.int (e:Nat)]))→Q r H'
theorem l8 {n:Nat}:∀{acts:List Vagrag.Act} {i:Nat} {g g':Game} {k:Nat} {a:Vagrag.Act},acts[k]?= some a→BM.Does n g (acts.take k) g'→Vagrag.playFrom n i g acts=Vagrag.playFrom n (i+k) g' (acts.drop k)
 | [],i,g,g',k,a,h,_=>by simp at h
 | b::r,i,g,g',0,a,_,d=>by cases d; rfl
 | b::r,i,g,g',k+1,a,h,d=>by
  cases d with
  | cons e t=>
   have h:r[k]?= some a:=by simpa using h
   have:=l8 (i:=i+1) h t
   conv=>lhs; unfold Vagrag.playFrom
   rw [e]
   show Vagrag.playFrom n (i+1) _ r=_
   rw [this,show i+1+k=i+(k+1) by omega]
   rfl
theorem jm {n:Nat}:∀{acts:List Vagrag.Act} {i:Nat} {g g':Game},BM.Does n g acts g'→Vagrag.playFrom n i g acts=Vagrag.playFrom n (i+acts.length) g' []
 | [],i,g,g',d=>by cases d; rfl
 | b::r,i,g,g',d=>by
  cases d with
  | cons e t=>
   have:=jm (i:=i+1) t
   conv=>lhs; unfold Vagrag.playFrom
   rw [e]
   show Vagrag.playFrom n (i+1) _ r=_
   rw [this,List.length_cons,show i+1+r.length=i+(r.length+1) by omega]
theorem E5 {n:Nat} {acts:List Vagrag.Act} {g g1 g2:Game} {k:Nat} {a:Vagrag.Act} (h:acts[k]?= some a) (d:BM.Does n g (acts.take k) g1) (e:Vagrag.act n g1 a=.ok g2):BM.Does n g (acts.take (k+1)) g2:=by
 obtain⟨b1,b2⟩:=List.getElem?_eq_some_iff.mp h
 rw [List.take_succ_eq_append_getElem b1,b2]
 exact d.app (.cons e (.nil _))
theorem wH {f:Addr} {fd:FuncData} (T:Tx P K mg base ad) (F:Fun K "play_acts" "play_acts" kg f fd) (fF:Fb P w K mg base 40 "reason_against" ["desk","act"] (yC K (ad.cls "Desk"))) (sP:Fb P w K mg base 40 "do_act" ["desk","act"] (Le K (ad.cls "Desk"))):
  FnOk P w K mg base CX0 41 f fd ["desk","acts"] (we K (ad.cls "Desk")):=by
 refine F.ok sc_play_acts (fun vs H Q E h=>?_) (fun cdv A outer s H vs Q E hr h=>?_)
 ·obtain⟨_,_,_,_,_,_,_,_,_,rfl,_⟩:=h; rfl
 ·obtain⟨p,dx,ls,lt,v,n,c,g,acts,rfl,d,ok,hn,⟨a,us,rfl,ha,hp⟩,hlen,k⟩:=h
  have hp:Paired (rTI K (hide (at2 ls lt) H)) us (acts.map actTold):=hp
  have hul:us.length=acts.length:=by rw [aJ hp,List.length_map]
  refine⟨_,(ag (cV PassesOwn.never rfl (wA rfl T.eA (aa (pv 1) ah)) (rX rfl (cP (a7 (i:=2) sc_play_acts.nd rfl (Or.inl rfl) (hf:=Or.inl rfl)) (cP (a7 (i:=3) sc_play_acts.nd rfl (Or.inl rfl) (hf:=Or.inl rfl)) lE)))
    (ag (aF (i:=4) sc_play_acts.nd rfl (Or.inl rfl) (aP fF (hr.mono (by decide)) rfl (aa (pv 0) (aa (pv 3) ah))))
    (ag (aS (aW (pv 4) (fun _=>rfl)) (aj (ay (aN (aa (pv 2) (aa (pv 4) ah))))) aC)
    (aj (bX (aP sP (hr.mono (by decide)) rfl (aa (pv 0) (aa (pv 3) ah))))))))
   (ag (aS (aW (aV (pv 0) rfl) (fun _=>rfl)) (aj (ay (aN (aa (ba (iX (K:=K) rfl) rfl T.du PySem.boot_len (aa (pv 1) ah)) (aa (aO rfl T.dF) ah))))) aC)
   (aj (ay (aN ah))))),?_⟩
  have i1:∀ys:List V,HO.ins (ad.cls "Desk") dx (deskK.zip [.int (n:Int),.ref ls,fX g.hand,.int (g.left:Int),.int (g.forward:Int),.ref lt])≠.lst ys:=fun _ z=>by cases z
  have i2:∀ys:List V,HO.ins (ad.cls "Desk") dx (deskK.zip [.int (n:Int),.ref ls,fX g.hand,.int (g.left:Int),.int (g.forward:Int),.ref lt])≠.tup ys:=fun _ z=>by cases z
  have i3:∀q ys,HO.ins (ad.cls "Desk") dx (deskK.zip [.int (n:Int),.ref ls,fX g.hand,.int (g.left:Int),.int (g.forward:Int),.ref lt])≠.frz q ys:=fun _ _ z=>by cases z
  have seqs:∀{H':Hp},Same3 p ls lt H H'→SqL K H' a us:=fun s'=>hide_same.seq (sq3 s' d.obj i1 i3 ha)
  refine⟨_,rfl,a,us,rfl,hide_same.seq ha,?_⟩
  refine sV (K:=K) (a:=a) (xs:=us) (fun i σ H'=>∃(v2 v3 v4:Option V) (g1:Game),σ=[some (.ref p),some (.ref a),v2,v3,v4]∧Same3 p ls lt H H'∧DeskAt (ad.cls "Desk") p dx ls lt n g1 H'∧BM.GOk n c g1∧BM.Does n g (acts.take i) g1)
   ⟨none,none,none,g,rfl,Same3.refl _,d,ok,.nil _⟩ (fun i σ H' _ ⟨_,_,_,_,_,hs,_⟩=>seqs hs) ?_ ?_
  ·rintro i x σ H' t hi ⟨v2,v3,v4,g1,rfl,hs,d1,ok1,dn⟩ ht
   obtain⟨ns,hns,q,rfl,hq⟩:=bY hp hi
   rw [List.getElem?_map] at hns
   cases hac:acts[i]? with
   | none=>rw [hac] at hns; cases hns
   | some ac=>
    rw [hac] at hns
    have hns:actTold ac=ns:=Option.some.inj hns
    subst hns
    have s1:Same H' (upd H' t (.tup [.int (i:Nat),.ref q])):=Same.new ht
    have hq1:=s1.tup (hide_same.tup (tp3 hs d.obj i2 i3 hq))
    refine⟨t,_,rfl,SqT.of af,rfl,_,_,rfl,_,_,rfl,rfl,?_⟩
    refine⟨_,rfl,_,rfl,?_⟩
    refine⟨p,dx,ls,lt,.ref q,n,c,g1,ac,rfl,d1.mono s1,ok1,⟨q,rfl,hq1⟩,fun H2 s2=>?_⟩
    have hplay:=l8 (i:=0) hac dn
    rw [Nat.zero_add] at hplay
    have hdrop:acts.drop i=ac::acts.drop (i+1):=by
     obtain⟨b1,b2⟩:=List.getElem?_eq_some_iff.mp hac
     rw [List.drop_eq_getElem_cons b1,b2]
    rw [hdrop] at hplay
    have s12:=s1.trans s2
    have hlt:=(List.getElem?_eq_some_iff.mp hac).1
    cases hact:Vagrag.act n g1 ac with
    | error e=>
     have er:BM.be n g1 ac=e:=by unfold BM.be; rw [hact]
     have hpl:Vagrag.playFrom n 0 g acts=.error (i,e):=by rw [hplay]; unfold Vagrag.playFrom; rw [hact]
     have he:e≠0:=by
      intro z
      subst z
      unfold Vagrag.act at hact
      cases ac <;> simp only at hact <;> (repeat' split at hact) <;> cases hact
     rw [er]
     refine⟨_,rfl,_,rfl,nJ (fun _=>?_) fun z=>absurd z (by omega)⟩
     refine⟨_,rfl,_,rfl,(by show 2≤sizeLine; decide),fun l hl=>k _ _ (hs.trans (s12.trans (Same.new hl)).s3) ?_⟩
     rw [hpl]
     exact⟨l,rfl,af⟩
    | ok g2=>
     have er:BM.be n g1 ac=0:=by unfold BM.be; rw [hact]
     rw [er]
     refine⟨_,rfl,_,rfl,nJ (fun z=>absurd rfl z) fun _=>?_⟩
     refine⟨_,rfl,_,rfl,?_⟩
     refine⟨p,dx,ls,lt,.ref q,n,c,g1,g2,ac,rfl,d1.mono s12,ok1,hn,⟨q,rfl,s2.tup hq1⟩,hact,fun H3 d3 s3=>?_⟩
     exact⟨_,_,_,g2,rfl,(hs.trans s12.s3).trans s3,d3,BM.Cw ok1 hact,E5 hac dn hact⟩
  ·rintro σ H' ⟨v2,v3,v4,g1,rfl,hs,d1,ok1,dn⟩
   rw [hul,List.take_length] at dn
   have hpl:=jm (i:=0) dn
   rw [Nat.zero_add] at hpl
   unfold Vagrag.playFrom at hpl
   have hg:=fun (z:g1.left=0)=>hpl.trans (if_pos z)
   have hb:=fun (z:¬g1.left=0)=>hpl.trans (if_neg z)
   have hpl2:Vagrag.playFrom n 0 g acts=(if g1.left=0 then .ok g1 else .error (acts.length,6)):=by
    rw [jm (i:=0) dn,Nat.zero_add]
    rfl
   refine⟨_,rfl,p,_,dx,_,.int (g1.left:Int),rfl,d1.obj,T.bj,T.n_Desk_left,cF df (i:=3) rfl rfl,_,rfl,nJ (fun z=>?_) fun z=>?_⟩
   ·refine⟨_,rfl,a,_,rfl,.inl (seqs hs),(by show 2≤sizeLine; decide),fun l hl=>k _ _ (hs.trans (Same.new hl).s3) ?_⟩
    rw [hpl2,if_neg (by omega)]
    refine⟨l,rfl,?_⟩
    rw [af,hul]
    rfl
   ·refine⟨(by show 0≤sizeLine; decide),fun l hl=>k _ _ (hs.trans (Same.new hl).s3) ?_⟩
    rw [hpl2,if_pos (by omega)]
    exact⟨d1.mono (Same.new hl),l,rfl,af⟩
noncomputable abbrev eD:Stmt:=top 20
theorem sc_count_filled:aD ["desk","held"] ["desk"] (aw eD):=⟨rfl,rfl,rfl,by decide +kernel,rfl,by decide +kernel,by decide +kernel⟩
noncomputable def yE (C:Addr):Sp:=fun vs H Q _=>∃(p dx ls lt:Addr) (n:Nat) (g:Game),vs=[.ref p]∧DeskAt C p dx ls lt n g H∧g.slots.length≤1000∧∀H',Same H H'→Q (.int (Vagrag.filled g:Nat)) H'
theorem qj {f:Addr} {fd:FuncData} (T:Tx P K mg base ad) (F:Fun K "count_filled" "count_filled" eD f fd):FnOk P w K mg base CX0 40 f fd ["desk"] (yE (ad.cls "Desk")):=by
 refine F.ok sc_count_filled (fun vs H Q E h=>?_) (fun cdv A outer s H vs Q E hr h=>?_)
 ·obtain⟨_,_,_,_,_,_,rfl,_⟩:=h; rfl
 ·obtain⟨p,dx,ls,lt,n,g,rfl,d,hl,k⟩:=h
  refine⟨_,(aj (ay (ba (iX (K:=K) rfl) rfl T.du PySem.boot_len (aa (eK (own:=[("held",1)]) rfl sc_count_filled.nd (bQ (aV (pv 0) rfl)) (bH (N:=["desk","held"]) (sc:=aw eD) (by decide +kernel)) (fun _ _ _ _ _=>(a7 (i:=1) sc_count_filled.nd rfl (Or.inl rfl) (hf:=Or.inr rfl))) (fun _ _ _ _ _=>(C1 (aE HY (pv 1) bM (aK _)))) (fun _ _ _ _ _=>(pv 1))) ah)))),?_⟩
  refine⟨_,rfl,p,_,dx,_,_,rfl,d.obj,T.bj,T.n_Desk_slots,cF df (i:=1) rfl rfl,ls,rfl,⟨_,SqL.of d.slots⟩,fun D hD=>?_⟩
  have hD:H D=none:=hD
  refine dD (K:=K) (a:=ls) (xs:=g.slots.map fX) (fun i H3=>Same H H3∧H3 D=some (.lst (((g.slots.take i).filter Option.isSome).map fX))) ⟨Same.new hD,af⟩ (fun i H3 _ ⟨s1,_⟩=>SqL.of (s1 _ _ d.slots)) ?_ ?_
  ·rintro i x H3 hx ⟨s1,hv⟩
   rw [List.getElem?_map] at hx
   cases hi:g.slots[i]? with
   | none=>rw [hi] at hx; cases hx
   | some o=>
    rw [hi] at hx
    have hx:fX o=x:=Option.some.inj hx
    subst hx
    obtain⟨b1,b2⟩:=List.getElem?_eq_some_iff.mp hi
    have et:g.slots.take (i+1)=g.slots.take i++[o]:=by rw [List.take_succ_eq_append_getElem b1,b2]
    cases o with
    | none=>
     refine⟨rfl,_,rfl,rfl,_,rfl,?_⟩
     refine jq ⟨s1,?_⟩
     rw [hv,et,List.filter_append]
     simp
    | some j=>
     refine⟨rfl,_,rfl,rfl,_,rfl,?_⟩
     refine gy ⟨_,rfl,_,hv,?_,s1.upd1 hD,?_⟩
     ·rw [List.length_map]
      have:=List.length_filter_le Option.isSome (g.slots.take i)
      rw [List.length_take] at this
      exact bc (by omega)
     ·rw [af,et,List.filter_append,List.map_append]
      rfl
  ·rintro H3 ⟨s1,hv⟩
   rw [List.length_map,List.take_length] at hv
   refine⟨D,_,rfl,.inl (SqL.of hv),?_⟩
   rw [List.length_map]
   exact k _ s1
end
end B
namespace B
open PySem PySem.Spec PyProof.Rows L2
section
variable {P:Program} {w:World} {K:PySem.W.Frag} {mg:Str→Option Value} {base:Heap} {ad:Ad}
theorem oW {D:Addr→Bool} {H:Hp} {l:Addr} {o:HO} (h:D l=true):hide D (upd H l o)=hide D H:=by
 funext b
 cases q:D b with
 | true=>rw [jr q,jr q]
 | false=>rw [bw q,bw q,aq (fun z=>by rw [z,h] at q; cases q)]
theorem _root_.L2.Same.hide2 {H H':Hp} {a b:Addr} (s:Same H H') (ha:H a=none) (hb:H b=none):Same H (hide (at2 a b) H'):=fun c o e=>by
 rw [bw (at2_false.mpr ⟨az e ha,az e hb⟩)]
 exact s c o e
theorem Jq {H:Hp} {a b:Addr} {xs ys:List V} (e:H a=some (.lst xs)) (e2:H b=some (.lst ys)):OnlyL (at2 a b) H:=OnlyL.two e e2
theorem LZ {a b:Addr}:at2 a b a=true:=by unfold at2; rw [decide_eq_true rfl]; rfl
theorem JJ {a b:Addr}:at2 a b b=true:=by unfold at2; rw [decide_eq_true (rfl:b=b),Bool.or_true]
theorem zB {D:Addr→Bool} {H:Hp} {l:Addr} {o:HO} (d:OnlyL D H) (n:H l=none):hide D (upd H l o) l=some o:=by
 have q:D l=false:=by
  cases q:D l with
  | false=>rfl
  | true=>obtain⟨xs,e⟩:=d l q; rw [n] at e; cases e
 rw [bw q,af]
theorem OnlyL.mono {D:Addr→Bool} {H H':Hp} (d:OnlyL D H) (s:Same H H'):OnlyL D H':=fun b h=>by
 obtain⟨xs,e⟩:=d b h
 exact⟨xs,s _ _ e⟩
theorem Mg {α:Type} {ar:α→List V→Hp→Prop} {rs:α→V→Hp→Prop} {vs:List V} {H:Hp} {Q:VK} {E:XK} (x:α) (D:Addr→Bool) (d:OnlyL D H) (a:ar x vs (hide D H)) (q:∀H' r,Same H H'→rs x r (hide D H')→Q r H'):bP ar rs vs H Q E:=⟨x,D,d,a,q⟩
theorem rZ {α:Type} {R S:V→α→Prop} (f:∀v x,R v x→S v x):∀{vs:List V} {xs:List α},Paired R vs xs→Paired S vs xs
 | _,_,.nil=>.nil
 | _,_,.cons r t=>.cons (f _ _ r) (rZ f t)
noncomputable def CH (c:Ch) (l:List (List Rat)) (ts:List (List (List Int)×Int)):Prop:=ts.length=l.length∧∀(j:Nat) (t:List (List Int)×Int) (vs:List Rat),ts[j]?= some t→l[j]?= some vs→∃M,BM.TabFor t (a6 c) c.outs c.parts vs M 15060∧Vagraa.bits M≤30001
structure RunAt (K:PySem.W.Frag) (C:Addr) (c:Ch) (n:Nat) (x:List Rat) (p dx ls lw lf:Addr) (vt:V) (H:Hp):Prop where
 obj:H p=some (.ins C dx (runK.zip [.int (n:Int),.ref ls,.ref lw,.ref lf,vt]))
 good:∀l,BM.bn (a6 c) c.outs n 0 x=.ok l→H lf=some (.lst [])∧b0 K (b0 K (rFr K)) H (.ref ls) (x::l.map (BM.aY c.outs))∧b0 K (b0 K (rFr K)) H (.ref lw) l∧((∃q,vt=.ref q∧H q=some (.lst []))∨∃ts,b0 K (ud K) H vt ts∧CH c l ts)
 bad:∀i e,BM.bn (a6 c) c.outs n 0 x=.error (i,e)→H lf=some (.lst [.int (i:Nat),.int (e.line:Nat),.int (e.kind:Nat)])
theorem Kr {H:Hp} {t:Addr} (n:Nat) (h:SqT K H t [.int (n:Int),.int 1]):rFr K H (.ref t) ((n:Int):Rat):=⟨t,rfl,h⟩
theorem vO {c:Ch} (ok:pK c) {i:Nat} {x vs:List Rat} (h:BM.gm (a6 c) i x=.ok vs):CF c vs:=by
 obtain⟨h1,h2⟩:=BM.FH h
 refine⟨by rw [h1]; unfold a6; rw [List.length_map],h2,fun n a b e=>?_⟩
 have hk:=BM.Known.at ok.kn e
 rw [Nat.zero_add] at hk
 have hw:=ok.wf _ (List.mem_of_getElem? e)
 have hb:0≤b:=by cases hw with | div _ _ _ h=>exact h
 have hk:a < (n:Int)∧b < (n:Int):=hk
 refine BM.Hi h (n:=n) (i:=a.toNat) ?_ (by omega)
 unfold a6
 rw [List.getElem?_map,e]
 rfl
noncomputable abbrev ic:Stmt:=top 76
theorem sc_run_chain:aD ["chain","steps","start","run","step","ran","values","out"] ["chain","steps","start"] (aw ic):=⟨rfl,rfl,rfl,by decide +kernel,rfl,by decide +kernel,by decide +kernel⟩
noncomputable def FJ (K:PySem.W.Frag) (Cc Cr:Addr):Sp:=fun vs H Q _=>∃(c:Ch) (n:Nat) (x:List Rat) (v u:V),vs=[v,.int (n:Int),u]∧rChain K Cc H v c∧pK c∧rLstT (rFr K) H u x∧x.length=c.parts∧n≤1000∧
 ∀H' p dx ls lw lf vt,Same H H'→H p=none→RunAt K Cr c n x p dx ls lw lf vt H'→Q (.ref p) H'
theorem DW {c:Ch} {n i:Nat} {x:List Rat} {l:List (List Rat)} {e:VagraLine.Fault} (ht:BM.bn (a6 c) c.outs i 0 x=.ok l) (hi:i < n) (hs:BM.gm (a6 c) i ((x::l.map (BM.aY c.outs)).getD i [])=.error e):BM.bn (a6 c) c.outs n 0 x=.error (i,e):=by
 obtain⟨m,rfl⟩:∃m,n=i+(m+1):=⟨n - i - 1,by omega⟩
 rw [BM.mh (n:=m+1) ht,Nat.zero_add]
 have e2:BM.bn (a6 c) c.outs (m+1) i ((x::l.map (BM.aY c.outs)).getD i [])=.error (i,e):=by
  conv=>lhs; unfold BM.bn
  rw [hs]
 rw [e2]
theorem FE {c:Ch} {i:Nat} {x vs:List Rat} {l:List (List Rat)} (ht:BM.bn (a6 c) c.outs i 0 x=.ok l) (hs:BM.gm (a6 c) i ((x::l.map (BM.aY c.outs)).getD i [])=.ok vs):BM.bn (a6 c) c.outs (i+1) 0 x=.ok (l++[vs]):=by
 rw [BM.mh (n:=1) ht,Nat.zero_add]
 have e2:BM.bn (a6 c) c.outs 1 i ((x::l.map (BM.aY c.outs)).getD i [])=.ok [vs]:=by
  conv=>lhs; unfold BM.bn
  rw [hs]
  rfl
 rw [e2]
theorem wF {f:Addr} {fd:FuncData} (T:Tx P K mg base ad) (F:Fun K "run_chain" "run_chain" ic f fd) (GA:Cb P w K mg base (ad.cls "Run") 40 "Run" ["self","steps","start"] (uZ (ad.cls "Run"))) (mQ:Fb P w K mg base 44 "run_code" ["lines","inputs"] (FK K)):
  FnOk P w K mg base CX0 45 f fd ["chain","steps","start"] (FJ K (ad.cls "Chain") (ad.cls "Run")):=by
 refine F.ok sc_run_chain (fun vs H Q E h=>?_) (fun cdv A outer s H vs Q E hr h=>?_)
 ·obtain⟨_,_,_,_,_,rfl,_⟩:=h; rfl
 ·obtain⟨c,n,x,v,u,rfl,hch,ok,⟨au,uv,rfl,hau,hpu⟩,hxl,hn,k⟩:=h
  obtain⟨pc,dxc,vl,vo,rfl,hpc,hlines,⟨ao,rfl,hao⟩⟩:=hch
  have hll:=ok.ll
  refine⟨_,(ag (aF (i:=3) sc_run_chain.nd rfl (Or.inl rfl) (C5 GA (hr.mono (by decide)) rfl (aa (pv 1) (aa (pv 2) ah))))
   (ag (cV PassesOwn.never rfl (d8 rfl T.cN (aa (pv 1) ah)) (a7 (i:=4) sc_run_chain.nd rfl (Or.inl rfl) (hf:=Or.inl rfl))
    (ag (aF (i:=5) sc_run_chain.nd rfl (Or.inl rfl) (aP mQ (hr.mono (by decide)) rfl (aa (aV (pv 0) rfl) (aa (aR jn (aA aQ (aV (pv 3) rfl) (pv 4) (fun _ _=>rfl)) (aN (aa (bq (aa (pv 4) (aa am ah))) ah))) ah))))
    (ag (aF (i:=6) sc_run_chain.nd rfl (Or.inr rfl) (aA aG (pv 5) am (fun _ _=>rfl)))
    (ag (aS (aW (aA aG (pv 5) am (fun _ _=>rfl)) (fun _=>rfl)) (ag (b5 (pv 3) (aN (aa (pv 4) (aa (ba (iX (K:=K) rfl) rfl T.du PySem.boot_len (aa (pv 6) ah)) (aa (aA aG (pv 5) am (fun _ _=>rfl)) ah)))) rfl)
     (aj (ay (pv 3)))) aC)
    (ag (bX (d9 PySem.F.plainAttrs_list PySem.F.slot_list_append PySem.F.type_list_append b9 (aV (pv 3) rfl) (aa (pv 6) ah)))
    (aj (bX (d9 PySem.F.plainAttrs_list PySem.F.slot_list_append PySem.F.type_list_append b9 (aV (pv 3) rfl) (aa (eK (own:=[("out",7)]) rfl sc_run_chain.nd (bQ (aV (pv 0) rfl)) (bH (N:=["chain","steps","start","run","step","ran","values","out"]) (sc:=aw ic) (by decide +kernel)) (fun _ _ _ _ _=>(a7 (i:=7) sc_run_chain.nd rfl (Or.inl rfl) (hf:=Or.inr rfl))) (fun _ _ _ _ _=>cn) (fun _ _ _ _ _=>(aA (ixL (K:=K) rfl) (pv 6) (pv 7) (fun _ _=>rfl)))) ah)))))))))
   (aj (ay (pv 3))))),?_⟩
  refine⟨_,rfl,_,rfl,fun p dx np ndx nxp=>?_⟩
  have np:H p=none:=np
  have ndx:H dx=none:=ndx
  refine⟨p,dx,_,_,rfl,af,fun H1 ls lw lf lt ep els elw elf elt nls nlw nlf nlt d12 d13 d14 d23 d24 d34 sx=>⟨rfl,?_⟩⟩
  have fr:∀{b:Addr},upd (upd H dx (.own p)) p (.ins (ad.cls "Run") dx []) b=none→H b=none:=fun {b} z=>by
   have n1:b≠p:=fun q=>by rw [q,af] at z; cases z
   rw [aq n1] at z
   have n2:b≠dx:=fun q=>by rw [q,af] at z; cases z
   rw [aq n2] at z
   exact z
  have als:=fr nls
  have alw:=fr nlw
  have s0:Same H H1:=fun b o e=>sx b o (by rw [aq (az e np),aq (az e ndx)]; exact e) (az e np)
  have npls:p≠ls:=fun z=>by rw [z,els] at ep; cases ep
  have nplw:p≠lw:=fun z=>by rw [z,elw] at ep; cases ep
  refine⟨_,rfl,(n:Int),rfl,(by omega),(by omega),?_⟩
  refine i7 (lo:=0) (n:=(n:Int).toNat) (fun i σ H'=>∃(v4 v5 v6:Option V) (sv wv:List V) (l:List (List Rat)),σ=[some (.ref pc),some (.int (n:Int)),some (.ref au),some (.ref p),v4,v5,v6,none]∧Same H H'∧H' p=some (.ins (ad.cls "Run") dx (runK.zip [.int (n:Int),.ref ls,.ref lw,.ref lf,.ref lt]))∧H' ls=some (.lst sv)∧Paired (rLstT (rFr K) (hide (at2 ls lw) H')) sv (x::l.map (BM.aY c.outs))∧H' lw=some (.lst wv)∧Paired (b0 K (rFr K) (hide (at2 ls lw) H')) wv l∧H' lf=some (.lst [])∧H' lt=some (.lst [])∧BM.bn (a6 c) c.outs i 0 x=.ok l)
   ⟨none,none,none,_,_,[],rfl,s0,ep,els,.cons ?_ .nil,elw,.nil,elf,elt,rfl⟩ ?_ ?_
  ·exact Go mFr _ _ _ _ (s0.hide2 als alw) ⟨au,uv,rfl,hau,hpu⟩
  ·rintro i σ H2 hi ⟨v4,v5,v6,sv,wv,l,rfl,hs,hp2,hls,hps,hlw,hpw,hlf,hlt,htr⟩
   have hi:i < n:=by omega
   obtain⟨htl,hta⟩:=BM.dM htr
   have e0:(0:Int)+(i:Int)=(i:Int):=Int.zero_add _
   rw [e0]
   have hsi:(x::l.map (BM.aY c.outs))[i]?= some ((x::l.map (BM.aY c.outs)).getD i []):=by
    rw [List.getD_eq_getElem?_getD,List.getElem?_eq_getElem (by rw [List.length_cons,List.length_map]; omega)]
    rfl
   generalize hst:(x::l.map (BM.aY c.outs)).getD i []=st at hsi
   have hstl:st.length=c.parts:=by
    rcases List.mem_cons.mp (List.mem_of_getElem? hsi) with e | e
    ·rw [e]; exact hxl
    ·obtain⟨vs,_,e⟩:=List.mem_map.mp e
     rw [←e]; unfold BM.aY; rw [List.length_map]; exact ok.ol
   obtain⟨vi,hvi,⟨ai,fv,rfl,hai,hpi⟩⟩:=bt hps hsi
   have hpi:Paired (rFr K (hide (at2 ls lw) H2)) fv st:=hpi
   have hai2:=(cz hai).2
   have d0:=Jq hls hlw
   have hfl:=aJ hpi
   have p4:=ok.p4
   refine⟨_,rfl,pc,_,dxc,_,_,rfl,hs _ _ hpc,T.bU,T.n_Chain_lines,pk ..,_,rfl,p,_,dx,_,_,rfl,hp2,T.ci,T.n_Run_states,cF kj (i:=1) rfl rfl,_,rfl,ls,_,_,_,rfl,rfl,SqL.of hls,bW rfl hvi,_,rfl,(by show 2≤sizeLine; decide),fun t ht=>⟨(by show 1≤sizeLine; decide),fun l1 hl1=>?_⟩⟩
   have s1:=Same.new (o:=.tup [.int (i:Int),.int 1]) ht
   have s2:=Same.new (o:=.lst [.ref t]) hl1
   refine⟨ai,l1,_,_,rfl,rfl,(s1.trans s2) _ _ hai2,af,?_,fun l2 hl2=>?_⟩
   ·have:=bc (n:=fv.length+1) (by omega)
    show fv.length+1≤sizeLine
    omega
   have s3:=Same.new (o:=.lst (fv++[.ref t])) hl2
   have s123:=(s1.trans s2).trans s3
   have d3:=d0.mono s123
   have hst4:hide (at2 ls lw) (upd (upd (upd H2 t (.tup [.int (i:Int),.int 1])) l1 (.lst [.ref t])) l2 (.lst (fv++[.ref t]))) l2=some (.lst (fv++[.ref t])):=zB (d0.mono (s1.trans s2)) hl2
   have htt:hide (at2 ls lw) (upd (upd (upd H2 t (.tup [.int (i:Int),.int 1])) l1 (.lst [.ref t])) l2 (.lst (fv++[.ref t]))) t=some (.tup [.int (i:Int),.int 1]):=(s2.trans s3).hide t _ (zB d0 ht)
   refine(show FK K [vl,.ref l2] _ _ E0 from Mg (c.lines,st++[((i:Int):Rat)]) (at2 ls lw) d3 ⟨_,_,rfl,gU mTI _ _ _ _ ((hs.trans s123).hide2 als alw) hlines,⟨l2,_,rfl,SqL.of hst4,?_⟩,ok.wf,?_,(by show c.lines.length≤1000; omega)⟩ fun H3 r s4 h4=>?_)
   ·exact bz (aT mFr s123.hide hpi) (Kr i (SqT.of htt))
   ·show BM.Known (st++[((i:Int):Rat)]).length 0 c.lines
    rw [List.length_append,hstl]
    exact ok.kn
   obtain⟨vals,kd,⟨tr,y1,y2,rfl,htr3,hy1,hy2⟩,hsm,hm⟩:=h4
   have hy2:y2=.int (kd:Int):=hy2
   subst hy2
   have hy1:b0 K (rFr K) (hide (at2 ls lw) H3) y1 vals:=hy1
   obtain⟨av,vv,rfl,hav,hpv⟩:=hy1
   have hpv:Paired (rFr K (hide (at2 ls lw) H3)) vv vals:=hpv
   have hm:(match BM.gm (a6 c) i st with | .ok us=>us=vals∧kd=0∧vals.length=c.lines.length | .error e=>e.line=vals.length∧e.kind=kd∧kd≠0):=hm
   have htr4:=hide_same.tup htr3
   have hs3:=hs.trans (s123.trans s4)
   have sa:=s123.trans s4
   refine⟨_,rfl,tr,_,0,_,rfl,rfl,htr4,rfl,?_⟩
   refine⟨_,rfl,tr,_,1,_,rfl,rfl,htr4,rfl,_,rfl,nJ (fun hk=>?_) fun hk=>?_⟩
   ·have hk:kd≠0:=by omega
    cases hsv:BM.gm (a6 c) i st with
    | ok us=>rw [hsv] at hm; exact absurd hm.2.1 hk
    | error e=>
     rw [hsv] at hm
     have hm:e.line=vals.length∧e.kind=kd∧kd≠0:=hm
     have htr':=DW htr hi (by rw [hst]; exact hsv)
     refine⟨_,rfl,_,rfl,av,_,rfl,.inl (hide_same.seq hav),_,rfl,tr,_,1,_,rfl,rfl,htr4,rfl,(by show 3≤sizeLine; decide),fun lf2 hlf2=>⟨_,rfl,p,_,dx,_,rfl,(Same.new hlf2) _ _ (sa _ _ hp2),T.ci,T.n_Run_fault,t7 (by decide),?_⟩⟩
     rw [qV kj (i:=3) rfl rfl]
     have s5:=Same.new (o:=.lst [.int (i:Int),.int (vv.length:Nat),.int (kd:Int)]) hlf2
     refine⟨_,rfl,k _ p dx ls lw lf2 (.ref lt) ?_ np ⟨af,fun l' e'=>?_,fun i' e' h'=>?_⟩⟩
     ·exact fun b o e=>by rw [aq (az e np)]; exact(hs3.trans s5) b o e
     ·rw [htr'] at e'; cases e'
     ·rw [htr'] at h'
      have h':(i,e)=(i',e'):=by injection h'
      injection h' with h1 h2
      subst h1 h2
      rw [aq (fun z=>by have:=(Same.new (o:=.lst [.int (i:Int),.int (vv.length:Nat),.int (kd:Int)]) hlf2) _ _ (sa _ _ hp2); rw [←z,af] at this; cases this),af,hm.1,hm.2.1,aJ hpv]
   ·have hk:kd=0:=by omega
    cases hsv:BM.gm (a6 c) i st with
    | error e=>rw [hsv] at hm; exact absurd hk hm.2.2
    | ok us=>
     rw [hsv] at hm
     obtain⟨rfl,_,hvl⟩:=(show us=vals∧kd=0∧vals.length=c.lines.length from hm)
     have htr':=FE htr (by rw [hst]; exact hsv)
     have hwl:wv.length=i:=by rw [aJ hpw]; exact htl
     have hsl:sv.length=i+1:=by rw [aJ hps,List.length_cons,List.length_map]; omega
     have hlw3:=sa _ _ hlw
     have hp3:=sa _ _ hp2
     refine⟨_,rfl,p,_,dx,_,_,rfl,hp3,T.ci,T.n_Run_worked,cF kj (i:=2) rfl rfl,.inl ⟨rfl,_,SqL.of hlw3⟩,_,rfl,lw,_,_,rfl,rfl,hlw3,bc (by omega),?_⟩
     have hp4:upd H3 lw (.lst (wv++[.ref av])) p=some (.ins (ad.cls "Run") dx (runK.zip [.int (n:Int),.ref ls,.ref lw,.ref lf,.ref lt])):=by rw [aq nplw]; exact hp3
     have hls4:upd H3 lw (.lst (wv++[.ref av])) ls=some (.lst sv):=by rw [aq d12]; exact sa _ _ hls
     have hlw4:upd H3 lw (.lst (wv++[.ref av])) lw=some (.lst (wv++[.ref av])):=af
     have hlf4:upd H3 lw (.lst (wv++[.ref av])) lf=some (.lst []):=by rw [aq d23.symm]; exact sa _ _ hlf
     have hlt4:upd H3 lw (.lst (wv++[.ref av])) lt=some (.lst []):=by rw [aq d24.symm]; exact sa _ _ hlt
     have hs4:Same H (upd H3 lw (.lst (wv++[.ref av]))):=hs3.upd1 alw
     have hh4:hide (at2 ls lw) (upd H3 lw (.lst (wv++[.ref av])))=hide (at2 ls lw) H3:=oW JJ
     have hav4:SqL K (hide (at2 ls lw) (upd H3 lw (.lst (wv++[.ref av])))) av vv:=by rw [hh4]; exact hav
     have hpv4:Paired (rFr K (hide (at2 ls lw) (upd H3 lw (.lst (wv++[.ref av]))))) vv us:=by rw [hh4]; exact hpv
     have hps4:Paired (rLstT (rFr K) (hide (at2 ls lw) (upd H3 lw (.lst (wv++[.ref av]))))) sv (x::l.map (BM.aY c.outs)):=by rw [hh4]; exact aT (Go mFr) sa.hide hps
     have hpw4:Paired (b0 K (rFr K) (hide (at2 ls lw) (upd H3 lw (.lst (wv++[.ref av]))))) wv l:=by rw [hh4]; exact aT (gU mFr) sa.hide hpw
     generalize upd H3 lw (.lst (wv++[.ref av]))=H4 at hp4 hls4 hlw4 hlf4 hlt4 hs4 hav4 hpv4 hps4 hpw4⊢
     have d4:=Jq hls4 hlw4
     refine⟨_,rfl,p,_,dx,_,_,rfl,hp4,T.ci,T.n_Run_states,cF kj (i:=1) rfl rfl,.inl ⟨rfl,_,SqL.of hls4⟩,_,rfl,pc,_,dxc,_,_,rfl,hs4 _ _ hpc,T.bU,T.n_Chain_outs,tI ..,ao,rfl,⟨_,hs4.seq hao⟩,fun D hD=>?_⟩
     have hD:H4 D=none:=hD
     have hvul:=aJ hpv4
     refine dD (K:=K) (a:=ao) (xs:=(jQ c).map V.int) (fun j H5=>Same H4 H5∧∃acc,H5 D=some (.lst acc)∧Paired (rFr K (hide (at2 ls lw) H5)) acc ((c.outs.take j).map fun o=>us.getD o 0))
      ⟨Same.new hD,_,af,.nil⟩ (fun j H5 _ ⟨s5,_⟩=>s5.seq (hs4.seq hao)) ?_ ?_
     ·rintro j y H5 hy ⟨s5,acc,hacc,hpa⟩
      obtain⟨o,ho,rfl,hom⟩:∃o:Nat,c.outs[j]?= some o∧y=.int (o:Int)∧o∈c.outs:=by
       obtain⟨m,hm',rfl⟩:=dE hy
       unfold jQ at hm'
       rw [List.getElem?_map] at hm'
       cases e:c.outs[j]? with
       | none=>rw [e] at hm'; cases hm'
       | some o=>
        rw [e] at hm'
        have hm':(o:Int)=m:=Option.some.inj hm'
        exact⟨o,rfl,by rw [hm'],List.mem_of_getElem? e⟩
      have hol:=ok.ok o hom
      have hou:us[o]?= some (us.getD o 0):=by
       rw [List.getD_eq_getElem?_getD,List.getElem?_eq_getElem (by omega)]
       rfl
      obtain⟨vo',hvo',hro⟩:=bt hpv4 hou
      refine⟨rfl,_,rfl,_,rfl,av,_,_,_,rfl,rfl,s5.seq (hide_same.seq hav4),bW rfl hvo',acc,hacc,?_,s5.upd1 hD,_,af,?_⟩
      ·have:=(List.getElem?_eq_some_iff.mp ho).1
       have:=ok.ol
       rw [aJ hpa,List.length_map,List.length_take]
       exact bc (by omega)
      ·rw [lx ho]
       refine bh (fun v q r=>?_) (bz hpa (mFr _ _ _ _ s5.hide hro))
       obtain⟨a0,rfl,h0⟩:=r
       refine⟨a0,rfl,?_⟩
       rcases h0 with(h0 | ⟨z,h0⟩) | h0
       ·obtain⟨z1,z2⟩:=cz h0
        exact .inl (.inl (by rw [bw z1,aq (zq z2 hacc (by intro z; cases z))]; exact z2))
       ·obtain⟨z1,z2⟩:=cz h0
        exact .inl (.inr ⟨z,by rw [bw z1,aq (zq z2 hacc (by intro z; cases z))]; exact z2⟩)
       ·exact .inr h0
     ·rintro H5 ⟨s5,acc,hacc,hpa⟩
      have hol:((jQ c).map V.int).length=c.outs.length:=by unfold jQ; rw [List.length_map,List.length_map]
      rw [hol,List.take_length] at hpa
      have hls5:=s5 _ _ hls4
      have hDD:at2 ls lw D=false:=at2_false.mpr ⟨(az hls4 hD).symm,(az hlw4 hD).symm⟩
      have hh5:hide (at2 ls lw) (upd H5 ls (.lst (sv++[.ref D])))=hide (at2 ls lw) H5:=oW LZ
      refine⟨ls,_,_,rfl,rfl,hls5,bc (by omega),⟨_,_,_,_,_,l++[us],rfl,(hs4.trans s5).upd1 als,by rw [aq npls]; exact s5 _ _ hp4,af,?_,by rw [aq d12.symm]; exact s5 _ _ hlw4,?_,by rw [aq d13.symm]; exact s5 _ _ hlf4,by rw [aq d14.symm]; exact s5 _ _ hlt4,htr'⟩⟩
      ·rw [hh5,List.map_append,←List.cons_append]
       exact bz (aT (Go mFr) s5.hide hps4) ⟨D,acc,rfl,by rw [bw hDD]; exact hacc,hpa⟩
      ·rw [hh5]
       exact bz (aT (gU mFr) s5.hide hpw4) ⟨av,vv,rfl,s5.hide.seq hav4,aT mFr s5.hide hpv4⟩
  ·rintro σ H2 ⟨v4,v5,v6,sv,wv,l,rfl,hs,hp2,hls,hps,hlw,hpw,hlf,hlt,htr⟩
   rw [show(n:Int).toNat=n by omega] at htr
   refine⟨_,rfl,k _ p dx ls lw lf (.ref lt) hs np ⟨hp2,fun l' e'=>?_,fun i' e' h'=>?_⟩⟩
   ·rw [htr] at e'
    have e':l=l':=by injection e'
    subst e'
    exact⟨hlf,⟨ls,sv,rfl,SqL.of hls,rZ (fun v q r=>gU mFr _ _ _ _ hide_same (rLstT.lst r)) hps⟩,⟨lw,wv,rfl,SqL.of hlw,aT (gU mFr) hide_same hpw⟩,.inl ⟨lt,rfl,hlt⟩⟩
   ·rw [htr] at h'; cases h'
noncomputable abbrev ib:Stmt:=top 77
theorem sc_tables_of:aD ["chain","run","values"] ["chain","run"] (aw ib):=⟨rfl,rfl,rfl,by decide +kernel,rfl,by decide +kernel,by decide +kernel⟩
noncomputable def AU (K:PySem.W.Frag) (Cc Cr:Addr):Sp:=fun vs H Q _=>∃(c:Ch) (n:Nat) (x:List Rat) (l:List (List Rat)) (v:V) (p dx ls lw lf:Addr) (vt:V),vs=[v,.ref p]∧rChain K Cc H v c∧pK c∧RunAt K Cr c n x p dx ls lw lf vt H∧BM.bn (a6 c) c.outs n 0 x=.ok l∧1≤n∧n≤1000∧
 ∀H' vt' ts,SameX p H H'→RunAt K Cr c n x p dx ls lw lf vt' H'→b0 K (ud K) H' vt' ts→CH c l ts→Q vt' H'
theorem SameX.n {p:Addr} {H H':Hp} {C dx:Addr} {fs:List (Str×V)} (s:SameX p H H') (hp:H p=some (.ins C dx fs)):SameN H H':=fun b o e i=>s b o e fun z=>by
 rw [z,hp] at e
 have e:=Option.some.inj e
 rw [←e] at i
 cases i
theorem Lv:k9 (ud K):=Jr (mG nLI) Lw
theorem wE {f:Addr} {fd:FuncData} (T:Tx P K mg base ad) (F:Fun K "tables_of" "tables_of" ib f fd) (jt:Fb P w K mg base 45 "step_table" ["chain","values"] (wa K (ad.cls "Chain"))):
  FnOk P w K mg base CX0 46 f fd ["chain","run"] (AU K (ad.cls "Chain") (ad.cls "Run")):=by
 refine F.ok sc_tables_of (fun vs H Q E h=>?_) (fun cdv A outer s H vs Q E hr h=>?_)
 ·obtain⟨_,_,_,_,_,_,_,_,_,_,_,rfl,_⟩:=h; rfl
 ·obtain⟨c,n,x,l,v,p,dx,ls,lw,lf,vt,rfl,hch,ok,R,htr,hn1,hn,k⟩:=h
  obtain⟨hlf,hst,⟨alw,wv,elw,hlw,hpw⟩,htabs⟩:=R.good l htr
  cases elw
  have hpw:Paired (b0 K (rFr K) H) wv l:=hpw
  obtain⟨htl,hta⟩:=BM.dM htr
  refine⟨_,(ag (aS (cq (aW (aV (pv 1) rfl) (fun _=>rfl))) (aj (b5 (pv 1) (eK (own:=[("values",2)]) rfl sc_tables_of.nd (bQ (aV (pv 1) rfl)) (bH (N:=["chain","run","values"]) (sc:=aw ib) (by decide +kernel)) (fun _ _ _ _ _=>(a7 (i:=2) sc_tables_of.nd rfl (Or.inl rfl) (hf:=Or.inr rfl))) (fun _ _ _ _ _=>cn) (fun _ _ _ _ _=>(aP jt (hr.mono (by decide)) rfl (aa (pv 0) (aa (pv 2) ah))))) rfl)) aC)
   (aj (ay (aV (pv 1) rfl)))),?_⟩
  refine⟨_,rfl,p,_,dx,_,vt,rfl,R.obj,T.ci,T.n_Run_tables,cF kj (i:=4) rfl rfl,?_⟩
  rcases htabs with⟨q,rfl,hq⟩ | ⟨ts,hts,htok⟩
  ·refine⟨false,.inl ⟨[],SqL.of hq,rfl⟩,gy ?_⟩
   refine⟨_,rfl,p,_,dx,_,_,rfl,R.obj,T.ci,T.n_Run_worked,cF kj (i:=2) rfl rfl,lw,rfl,⟨_,hlw⟩,fun D hD=>?_⟩
   have hD:H D=none:=hD
   refine dD (K:=K) (a:=lw) (xs:=wv) (fun i H3=>Same H H3∧∃acc ts,H3 D=some (.lst acc)∧Paired (ud K (hide (at1 D) H3)) acc ts∧CH c (l.take i) ts)
    ⟨Same.new hD,[],[],af,.nil,⟨rfl,fun j t vs e=>by simp at e⟩⟩ (fun i H3 _ ⟨s1,_⟩=>s1.seq hlw) ?_ ?_
   ·rintro i y H3 hy ⟨s1,acc,ts,hacc,hpa,htk⟩
    obtain⟨vals,hvals,hrv⟩:=bY hpw hy
    have hlt:=(List.getElem?_eq_some_iff.mp hvals).1
    have hstep:=hta i vals hvals
    rw [Nat.zero_add] at hstep
    have s1h:=s1.hide1 hD
    refine⟨rfl,_,rfl,_,rfl,?_⟩
    refine(show wa K (ad.cls "Chain") [v,y] H3 _ E0 from DT (c,vals) hacc ⟨_,_,rfl,Gp _ _ _ _ s1h hch,gU mFr _ _ _ _ s1h hrv,ok,vO ok hstep⟩ fun H4 r4 s4 h4=>?_)
    obtain⟨t,M,hrt,htf,hMb⟩:=h4
    refine⟨acc,s4 _ _ hacc,?_,(s1.trans s4).upd1 hD,_,ts++[t],af,?_,?_⟩
    ·rw [aJ hpa,htk.1,List.length_take]
     exact bc (by omega)
    ·rw [dR]
     exact bz (aT EE s4.hide hpa) hrt
    ·obtain⟨k1,k2⟩:=htk
     have k1':ts.length=i:=by rw [k1,List.length_take]; omega
     refine⟨by rw [List.length_append,List.length_take,k1']; show i+1=_; omega,fun j t' vs' hj hv'=>?_⟩
     rw [List.getElem?_take] at hv'
     split at hv'
     ·rename_i hji
      by_cases e:j < i
      ·rw [List.getElem?_append_left (by omega)] at hj
       exact k2 j t' vs' hj (by rw [List.getElem?_take,if_pos e]; exact hv')
      ·have e:j=i:=by omega
       subst e
       rw [List.getElem?_append_right (by omega),k1',Nat.sub_self] at hj
       have hj:t=t':=by simpa using hj
       subst hj
       rw [hvals] at hv'
       have hv':=Option.some.inj hv'
       subst hv'
       exact⟨M,htf,hMb⟩
     ·cases hv'
   ·rintro H3 ⟨s1,acc,ts,hacc,hpa,htk⟩
    rw [show wv.length=l.length from aJ hpw,List.take_length] at htk
    refine⟨_,rfl,p,_,dx,_,rfl,s1 _ _ R.obj,T.ci,T.n_Run_tables,t7 (by decide),?_⟩
    rw [qV kj (i:=4) rfl rfl]
    have sx:SameX p H (upd H3 p (.ins (ad.cls "Run") dx (runK.zip ([.int (n:Int),.ref ls,.ref lw,.ref lf,.ref q].set 4 (.ref D))))):=fun b o e hb=>by rw [aq hb]; exact s1 b o e
    have sn:=sx.n R.obj
    have hobj:upd H3 p (.ins (ad.cls "Run") dx (runK.zip ([.int (n:Int),.ref ls,.ref lw,.ref lf,.ref q].set 4 (.ref D)))) p=some (.ins (ad.cls "Run") dx (runK.zip [.int (n:Int),.ref ls,.ref lw,.ref lf,.ref D])):=af
    have hpD:D≠p:=fun z=>by rw [z,s1 _ _ R.obj] at hacc; cases hacc
    have htabs:b0 K (ud K) (upd H3 p (.ins (ad.cls "Run") dx (runK.zip ([.int (n:Int),.ref ls,.ref lw,.ref lf,.ref q].set 4 (.ref D))))) (.ref D) ts:=⟨D,acc,rfl,SqL.of (by rw [aq hpD]; exact hacc),bh (fun v q r=>Lv _ _ _ _ (fun b o e i=>by
     rw [aq (fun z=>by rw [z,s1 _ _ R.obj] at e; have e:=Option.some.inj e; rw [←e] at i; cases i)]; exact e) (EE _ _ _ _ hide_same r)) hpa⟩
    refine⟨_,rfl,p,_,dx,_,.ref D,rfl,hobj,T.ci,T.n_Run_tables,cF kj (i:=4) rfl rfl,k _ (.ref D) ts sx ⟨hobj,fun l' e'=>?_,fun i' e' h'=>?_⟩ htabs htk⟩
    ·rw [htr] at e'
     have e':l=l':=by injection e'
     subst e'
     exact⟨sn _ _ hlf rfl,mG (mG nFr) _ _ _ _ sn hst,mG (mG nFr) _ _ _ _ sn ⟨lw,wv,rfl,hlw,hpw⟩,.inr ⟨ts,htabs,htk⟩⟩
    ·rw [htr] at h'; cases h'
  ·obtain⟨at_,us,rfl,hat,hpt⟩:=hts
   have hul:us.length=n:=by rw [aJ hpt,htok.1]; exact htl
   have hne:(!us.isEmpty)=true:=by
    cases us with
    | nil=>have:0=n:=hul
           omega
    | cons _ _=>rfl
   refine⟨true,.inl ⟨us,hat,hne.symm⟩,jq ?_⟩
   exact⟨_,rfl,p,_,dx,_,.ref at_,rfl,R.obj,T.ci,T.n_Run_tables,cF kj (i:=4) rfl rfl,k _ (.ref at_) ts (fun b o e _=>e) R ⟨at_,us,rfl,hat,hpt⟩ htok⟩
end
end B
namespace B
open PySem PySem.Spec PyProof.Rows L2
open Vagrag (Game actTold)
section
variable {P:Program} {w:World} {K:PySem.W.Frag} {mg:Str→Option Value} {base:Heap} {ad:Ad}
noncomputable def rActsT (K:PySem.W.Frag):Rep (List Vagrag.Act):=fun H v a=>∃l us,v=.ref l∧H l=some (.lst us)∧Paired (rTI K H) us (a.map actTold)
theorem rActsT.acts {H:Hp} {v:V} {a:List Vagrag.Act} (h:rActsT K H v a):pO K H v a:=by
 obtain⟨l,us,rfl,h1,h2⟩:=h
 exact⟨l,us,rfl,SqL.of h1,h2⟩
theorem mE {H:Hp} {v:V} {x:List Int} (h:rTI K H v x):∀n:Nat,Paired (rTI K H) (List.replicate n v) (List.replicate n x)
 | 0=>.nil
 | n+1=>.cons h (mE h n)
theorem wT {α β:Type} (f:α→β) (x:α):∀n:Nat,(List.replicate n x).map f=List.replicate n (f x)
 | 0=>rfl
 | n+1=>by rw [List.replicate_succ,List.map_cons,wT f x n]; rfl
theorem jO {α:Type} {R:V→α→Prop}:∀{ps:List V} {y:V} {ts:List α},Paired R (ps++[y]) ts→∃ts' t,ts=ts'++[t]∧Paired R ps ts'∧R y t
 | [],y,_,.cons r .nil=>⟨[],_,rfl,.nil,r⟩
 | p::ps,y,_,.cons r h=>by
  obtain⟨ts',t,e,h1,h2⟩:=jO h
  exact⟨_::ts',t,by rw [e]; rfl,.cons r h1,h2⟩
theorem IC {H H':Hp} (s:Same H H'):∃A:Hp,A=H':=⟨_,rfl⟩
theorem DQ {c:TT} {tb:TS} {D:t6} {σ:L2.St} {H:Hp} (Pv:Nat→L2.St→Hp→Prop) (h0:∃m,Pv m σ H)
  (hs:∀m σ H,Pv m σ H→c σ H fun b H1=>if b=true then tb {D with nx:=fun σ' H'=>∃m',m' < m∧Pv m' σ' H',ct:=fun σ' H'=>∃m',m' < m∧Pv m' σ' H',bk:=D.nx} σ H1 else D.nx σ H1)
  (mono:∀σ H Q Q',(∀b H1,Q b H1→Q' b H1)→c σ H Q→c σ H Q'):AL c tb D σ H:=by
 refine⟨Pv,h0,?_⟩
 rintro m σ H p
 refine mono σ H _ _ (fun b H1 q=>?_) (hs m σ H p)
 cases b with
 | true=>exact⟨_,fun σ' H' z=>z,q⟩
 | false=>exact q
noncomputable abbrev jh:Stmt:=top 80
theorem sc_again_from:aD ["slot","length","acts","i"] ["slot","length"] (aw jh):=⟨rfl,rfl,rfl,by decide +kernel,rfl,by decide +kernel,by decide +kernel⟩
noncomputable def wk (K:PySem.W.Frag):Sp:=bP (fun (x:Nat×Nat) vs _=>vs=[.int (x.1:Int),.int (x.2:Int)]∧x.2≤100) (fun x r H=>rActsT K H r (BM.jR x.1 x.2))
theorem Ag (s n i:Nat) (h:i < n):((List.range n).reverse.take (i+1)).flatMap (fun j=>Vagrag.Act.take s::(List.replicate j Vagrag.Act.step++[Vagrag.Act.turn]))=((List.range n).reverse.take i).flatMap (fun j=>Vagrag.Act.take s::(List.replicate j Vagrag.Act.step++[Vagrag.Act.turn]))++(Vagrag.Act.take s::(List.replicate (n - 1 - i) Vagrag.Act.step++[Vagrag.Act.turn])):=by
 refine on ?_
 rw [List.getElem?_reverse (by rw [List.length_range]; exact h),List.length_range,List.getElem?_range (by omega)]
theorem zH {s:Nat}:∀(l:List Nat),(∀j∈l,j≤100)→(l.flatMap (fun j=>Vagrag.Act.take s::(List.replicate j Vagrag.Act.step++[Vagrag.Act.turn]))).length≤102*l.length
 | [],_=>Nat.le_refl _
 | j::r,h=>by
  rw [List.flatMap_cons,List.length_append]
  have h1:=zH (s:=s) r fun x hx=>h x (List.mem_cons_of_mem _ hx)
  have h2:=h j (List.mem_cons_self ..)
  have e:(Vagrag.Act.take s::(List.replicate j Vagrag.Act.step++[Vagrag.Act.turn])).length=j+2:=by rw [List.length_cons,List.length_append,List.length_replicate]; rfl
  rw [e,List.length_cons]
  omega
theorem uk {f:Addr} {fd:FuncData} (T:Tx P K mg base ad) (F:Fun K "again_from" "again_from" jh f fd):FnOk P w K mg base CX0 40 f fd ["slot","length"] (wk K):=by
 refine bb (F.ok sc_again_from (fun vs H Q E h=>?_) (fun cdv A outer s H vs Q E hr h=>?_))
 ·obtain⟨x,⟨rfl,_⟩,_⟩:=h; rfl
 ·obtain⟨⟨sl,n⟩,⟨rfl,hn⟩,k⟩:=h
  have hn:n≤100:=hn
  refine⟨_,(ag (aF (i:=2) sc_again_from.nd rfl (Or.inl rfl) (aN ah))
   (ag (cV PassesOwn.never rfl (Ei rfl T.cN (aa (aR fE (pv 1) am) (aa (rY mf am) (aa (rY mf am) ah)))) (a7 (i:=3) sc_again_from.nd rfl (Or.inl rfl) (hf:=Or.inl rfl))
    (aj (bX (d9 PySem.F.plainAttrs_list PySem.F.slot_list_extend PySem.F.type_list_extend lH (pv 2) (aa (aR jn (aR jn (aN (aa (bq (aa (aO rfl T.kM) (aa (pv 0) ah))) ah)) (aR wC (aN (aa (bq (aa (aO rfl T.mS) ah)) ah)) (pv 3))) (aN (aa (bq (aa (aO rfl T.sT) ah)) ah))) ah)))))
   (aj (ay (pv 2))))),?_⟩
  refine⟨Nat.zero_le _,fun la hl'=>?_⟩
  have nl:H la=none:=hl'
  refine⟨_,rfl,_,_,rfl,rfl,_,rfl,_,rfl,(n:Int) - 1,-1,-1,n,rfl,?_,?_⟩
  ·have:=RgC.neg (i:=(n:Int) - 1) (j:=-1) (by omega) (by omega) (by decide) (by decide)
   rw [show((n:Int) - 1 - -1).toNat=n by omega] at this
   exact this
  refine BT (lo:=(n:Int) - 1) (c:=-1) (n:=n) (fun i σ H'=>∃(v3:Option V) (us:List V),σ=[some (.int (sl:Int)),some (.int (n:Int)),some (.ref la),v3]∧Same H H'∧H' la=some (.lst us)∧Paired (rTI K H') us ((((List.range n).reverse.take i).flatMap (fun j=>Vagrag.Act.take sl::(List.replicate j Vagrag.Act.step++[Vagrag.Act.turn]))).map actTold))
   ⟨none,[],rfl,Same.new nl,af,.nil⟩ ?_ ?_
  ·rintro i σ H' hi ⟨v3,us,rfl,hs,hv,hp⟩
   have ei:(n:Int) - 1+(i:Int)*-1=((n - 1 - i:Nat):Int):=by omega
   rw [ei]
   generalize hj:n - 1 - i=j
   have hj100:j≤100:=by omega
   refine⟨_,rfl,.inl ⟨rfl,_,SqL.of hv⟩,_,rfl,(by show 2≤sizeLine; decide),fun t1 h1=>⟨(by show 1≤sizeLine; decide),fun l1 h2=>⟨(by show 1≤sizeLine; decide),fun t2 h3=>⟨(by show 1≤sizeLine; decide),fun l2 h4=>⟨_,rfl,l2,(j:Int),_,rfl,rfl,af,(by omega),(by omega),?_,fun l3 h5=>?_⟩⟩⟩⟩⟩
   ·show 1*(j:Int).toNat≤sizeLine
    have:=bc (n:=j) (by omega)
    omega
   rw [show(j:Int).toNat=j by omega,qJ]
   have s1:=Same.new (o:=.tup [.int 0,.int (sl:Int)]) h1
   have s2:=Same.new (o:=.lst [.ref t1]) h2
   have s3:=Same.new (o:=.tup [.int 2]) h3
   have s4:=Same.new (o:=.lst [.ref t2]) h4
   have s5:=Same.new (o:=.lst (List.replicate j (.ref t2))) h5
   have s35:=(s3.trans s4).trans s5
   refine⟨l1,l3,_,_,rfl,rfl,s35 l1 _ af,af,?_,fun l4 h6=>?_⟩
   ·rw [List.length_replicate]
    show 1+j≤sizeLine
    have:=bc (n:=1+j) (by omega)
    omega
   have s6:=Same.new (o:=.lst ([.ref t1]++List.replicate j (.ref t2))) h6
   refine⟨(by show 1≤sizeLine; decide),fun t3 h7=>⟨(by show 1≤sizeLine; decide),fun l5 h8=>?_⟩⟩
   have s7:=Same.new (o:=.tup [.int 3]) h7
   have s8:=Same.new (o:=.lst [.ref t3]) h8
   refine⟨l4,l5,_,_,rfl,rfl,(s7.trans s8) l4 _ af,af,?_,fun l6 h9=>?_⟩
   ·rw [List.length_append,List.length_replicate]
    show 1+j+1≤sizeLine
    have:=bc (n:=1+j+1) (by omega)
    omega
   have s9:=Same.new (o:=.lst ([.ref t1]++List.replicate j (.ref t2)++[.ref t3])) h9
   have sall:=((((s1.trans s2).trans s35).trans s6).trans (s7.trans s8)).trans s9
   have hla:=sall la _ hv
   have q1:=(((s2.trans s35).trans s6).trans (s7.trans s8)).trans s9
   have q2:=((s4.trans s5).trans s6).trans ((s7.trans s8).trans s9)
   have q3:=s8.trans s9
   refine⟨la,l6,_,_,rfl,rfl,hla,af,?_,⟨_,_,rfl,(hs.trans sall).upd1 nl,af,?_⟩⟩
   ·have e:=zH (s:=sl) ((List.range n).reverse.take i) fun x hx=>by
     have:=List.mem_range.mp (List.mem_reverse.mp (List.mem_of_mem_take hx))
     omega
    rw [aJ hp,List.length_map,List.length_append,List.length_append,List.length_replicate]
    rw [List.length_take,List.length_reverse,List.length_range] at e
    rw [sizeLine_eq]
    have e1:([V.ref t1]:List V).length=1:=rfl
    have e3:([V.ref t3]:List V).length=1:=rfl
    omega
   ·rw [Ag sl n i hi,hj,List.map_append,List.map_cons,List.map_append,wT]
    refine d5 (bh (fun v x r=>ck (mTI _ _ _ _ sall r) hla) hp) ?_
    refine bh (fun v x r=>ck r hla) ?_
    have r1:rTI K _ (.ref t1) [0,(sl:Int)]:=⟨t1,rfl,SqT.of (q1 t1 _ af)⟩
    have r2:rTI K _ (.ref t2) [2]:=⟨t2,rfl,SqT.of (q2 t2 _ af)⟩
    have r3:rTI K _ (.ref t3) [3]:=⟨t3,rfl,SqT.of (q3 t3 _ af)⟩
    exact .cons r1 (d5 (mE r2 j) (.cons r3 .nil))
  ·rintro σ H' ⟨v3,us,rfl,hs,hv,hp⟩
   rw [List.take_of_length_le (by rw [List.length_reverse,List.length_range]; exact Nat.le_refl _)] at hp
   exact⟨_,rfl,k _ _ hs ⟨la,us,rfl,hv,hp⟩⟩
noncomputable abbrev f7:Stmt:=top 79
theorem sc_told_schedule:aD ["steps","slots","columns","acts","pending","stretch","length","slot","free","m"] ["steps","slots","columns"] (aw f7):=⟨rfl,rfl,rfl,by decide +kernel,rfl,by decide +kernel,by decide +kernel⟩
noncomputable def m9 (K:PySem.W.Frag):Sp:=bP (fun (x:Nat×Nat) vs H=>∃v,vs=[.int (x.1:Int),.int (x.2:Int),v]∧b0 K (rLI K) H v (dG 20)∧1≤x.1∧x.1≤60∧1≤x.2∧x.2≤20) (fun x r H=>rActsT K H r (Vagrag.schedule x.1 x.2))
noncomputable def FG (t:BM.uS):List Int:=[(t.len:Int),(t.slot:Int),(t.free:Int)]
structure JK (c:Nat) (t:BM.uS):Prop where
 l1:1≤t.len
 l60:t.len≤60
 f1:1≤t.free
 fc:t.free≤c
noncomputable abbrev yP (K:PySem.W.Frag) (H:Hp) (n c:Nat) (vk:V) (la lp:Addr) (m:Nat) (σ:L2.St) (H':Hp):Prop:=∃(v5 v6 v7 v8 v9:Option V) (us ps:List V) (done:List Vagrag.Act) (ts:List BM.uS),σ=[some (.int (n:Int)),some (.int (c:Int)),some vk,some (.ref la),some (.ref lp),v5,v6,v7,v8,v9]∧Same H H'∧H' la=some (.lst us)∧Paired (rTI K H') us (done.map actTold)∧H' lp=some (.lst ps)∧Paired (rTI K H') ps (ts.map FG)∧(∀t∈ts,JK c t)∧BM.p9 ts=m∧m≤119∧Vagrag.schedule n c=done++ts.reverse.flatMap (BM.dS c)
theorem oP {f:Addr} {fd:FuncData} (T:Tx P K mg base ad) (F:Fun K "told_schedule" "told_schedule" f7 f fd) (jx:Fb P w K mg base 40 "again_from" ["slot","length"] (wk K)) (ek:Fb P w K mg base 41 "parted_at" ["n","c","columns"] (ka K)):
  FnOk P w K mg base CX0 42 f fd ["steps","slots","columns"] (m9 K):=by
 refine bb (F.ok sc_told_schedule (fun vs H Q E h=>?_) (fun cdv A outer s H vs Q E hr h=>?_))
 ·obtain⟨x,⟨_,rfl,_⟩,_⟩:=h; rfl
 ·obtain⟨⟨n,c⟩,⟨vk,rfl,hk,h1,h60,hc1,hc20⟩,k⟩:=h
  have h1:1≤n:=h1
  have h60:n≤60:=h60
  have hc1:1≤c:=hc1
  have hc20:c≤20:=hc20
  have hk:b0 K (rLI K) H vk (dG 20):=hk
  refine⟨_,(ag (aF (i:=3) sc_told_schedule.nd rfl (Or.inl rfl) (aN ah))
   (ag (aF (i:=4) sc_told_schedule.nd rfl (Or.inl rfl) (aN (aa (bq (aa (pv 0) (aa am (aa am ah)))) ah)))
   (ag (iV PassesOwn.never (aW (pv 4) (fun _=>rfl))
    (ag (aF (i:=5) sc_told_schedule.nd rfl (Or.inl rfl) (Bp PySem.F.plainAttrs_list PySem.F.slot_list_pop PySem.F.type_list_pop Ki (pv 4)))
    (ag (aF (i:=6) sc_told_schedule.nd rfl (Or.inl rfl) (aA aG (pv 5) am (fun _ _=>rfl)))
    (ag (aF (i:=7) sc_told_schedule.nd rfl (Or.inl rfl) (aA aG (pv 5) am (fun _ _=>rfl)))
    (ag (aF (i:=8) sc_told_schedule.nd rfl (Or.inl rfl) (aA aG (pv 5) am (fun _ _=>rfl)))
    (ag (aS (PW.pt (ko (aE bN (pv 6) am (aK _)) (gR (aE bN (pv 8) (pv 1) (aK _))))) (ag (bX (d9 PySem.F.plainAttrs_list PySem.F.slot_list_extend PySem.F.type_list_extend lH (pv 3) (aa (aP jx (hr.mono (by decide)) rfl (aa (pv 7) (aa (pv 6) ah))) ah)))
     (aj pP)) aC)
    (ag (aF (i:=9) sc_told_schedule.nd rfl (Or.inl rfl) (aP ek (hr.mono (by decide)) rfl (aa (pv 6) (aa (aR cu (aR fE (pv 1) (pv 8)) am) (aa (pv 2) ah)))))
    (ag (bX (d9 PySem.F.plainAttrs_list PySem.F.slot_list_extend PySem.F.type_list_extend lH (pv 3) (aa (aR jn (aR jn (aN (aa (bq (aa (aO rfl T.kM) (aa (pv 7) ah))) ah)) (aR wC (aN (aa (bq (aa (aO rfl T.mS) ah)) ah)) (pv 9))) (aN (aa (bq (aa (aO rfl T.oZ) (aa (pv 8) ah))) ah))) ah)))
    (ag (bX (d9 PySem.F.plainAttrs_list PySem.F.slot_list_append PySem.F.type_list_append b9 (pv 4) (aa (bq (aa (pv 9) (aa (pv 7) (aa (pv 8) ah)))) ah)))
    (aj (bX (d9 PySem.F.plainAttrs_list PySem.F.slot_list_append PySem.F.type_list_append b9 (pv 4) (aa (bq (aa (aR fE (pv 6) (pv 9)) (aa (pv 8) (aa (aR cu (pv 8) am) ah)))) ah)))))))))))))
   (aj (ay (pv 3)))))),?_⟩
  refine⟨Nat.zero_le _,fun la hla'=>?_⟩
  have na:H la=none:=hla'
  have s0:=Same.new (o:=.lst []) na
  refine⟨_,rfl,(by show 3≤sizeLine; decide),fun t0 ht0=>⟨(by show 1≤sizeLine; decide),fun lp hlp=>?_⟩⟩
  have s1:=Same.new (o:=.tup [.int (n:Int),.int 0,.int 1]) ht0
  have s2:=Same.new (o:=.lst [.ref t0]) hlp
  have s012:=(s0.trans s1).trans s2
  have np:H lp=none:=(s0.trans s1).free hlp
  have nap:la≠lp:=az (s1 la _ af) hlp
  dsimp only [DY,yA,nP,tC]
  refine DQ (yP K H n c vk la lp)
   ⟨_,none,none,none,none,none,[],[.ref t0],[],[⟨n,0,1⟩],rfl,s012,(s1.trans s2) la _ af,.nil,af,.cons ⟨t0,rfl,SqT.of (s2 t0 _ af)⟩ .nil,(fun t ht=>by rw [List.mem_singleton.mp ht]; exact⟨h1,h60,Nat.le_refl _,hc1⟩),rfl,(by show 2*n - 1+0≤119; omega),(by rw [BM.ow]; simp)⟩ ?_ (fun σ H Q Q' h ⟨v,e,kk,tr,q⟩=>⟨v,e,kk,tr,h _ _ q⟩)
  rintro m σ H' ⟨v5,v6,v7,v8,v9,us,ps,done,ts,rfl,hs,hv,hp,hq,hpq,hok,hw,hm,htot⟩
  have hslen:=BM.gq (c:=c) h1 h60
  have hkk:=gU (K:=K) mLI _ _ _ _ hs hk
  refine⟨_,rfl,!ps.isEmpty,.inl ⟨ps,SqL.of hq,rfl⟩,?_⟩
  rcases List.eq_nil_or_concat ps with rfl | ⟨ps',y,rfl⟩
  ·have ets:ts=[]:=by
    cases ts with
    | nil=>rfl
    | cons t r=>cases hpq
   subst ets
   have htot:Vagrag.schedule n c=done:=by rw [htot]; simp
   refine jq ⟨_,rfl,k _ _ hs ⟨la,us,rfl,hv,?_⟩⟩
   rw [htot]
   exact hp
  ·have enil:(!(ps'.concat y).isEmpty)=true:=by simp
   rw [enil]
   rw [List.concat_eq_append] at hq hpq
   obtain⟨tsV,tV,eV,hpq',hy⟩:=jO hpq
   obtain⟨ts',t,rfl⟩:∃ts' t,ts=ts'++[t]:=by
    rcases List.eq_nil_or_concat ts with rfl | ⟨a,b,rfl⟩
    ·exfalso
     have:=congrArg List.length eV
     rw [List.length_append] at this
     simp at this
    ·exact⟨a,b,List.concat_eq_append ..⟩
   rw [List.map_append] at eV
   obtain⟨e1,e2⟩:=List.append_inj' eV rfl
   have e2:FG t=tV:=by simpa using e2
   subst e1 e2
   obtain⟨ty,rfl,hty⟩:=hy
   have hty:SqT K H' ty [.int (t.len:Int),.int (t.slot:Int),.int (t.free:Int)]:=hty
   have okt:=hok t (List.mem_append_right _ (List.mem_singleton.mpr rfl))
   have hwl:=BM.xY (ts'++[t]) fun x hx=>(hok x hx).l1
   rw [BM.iP] at hw
   have hwt:BM.p9 [t]=2*t.len - 1:=by show 2*t.len - 1+0=_; omega
   have tl1:=okt.l1
   have tl60:=okt.l60
   have tf1:=okt.f1
   have tfc:=okt.fc
   have epop:(ps'++[V.ref ty])[(ps'++[V.ref ty]).length - 1]?= some (.ref ty):=by
    rw [List.length_append]
    show(ps'++[V.ref ty])[ps'.length+1 - 1]?= _
    rw [Nat.add_sub_cancel,List.getElem?_append_right (Nat.le_refl _),Nat.sub_self]
    rfl
   refine gy ⟨_,rfl,.inl ⟨rfl,_,SqL.of hq⟩,lp,_,_,rfl,rfl,hq,epop,?_⟩
   rw [List.dropLast_concat]
   have st1:SqT K (upd H' lp (.lst ps')) ty [.int (t.len:Int),.int (t.slot:Int),.int (t.free:Int)]:=qF hty hq
   have hs1:Same H (upd H' lp (.lst ps')):=hs.upd1 np
   have hv1:upd H' lp (.lst ps') la=some (.lst us):=by rw [aq nap]; exact hv
   have hq1:upd H' lp (.lst ps') lp=some (.lst ps'):=af
   have hp1:Paired (rTI K (upd H' lp (.lst ps'))) us (done.map actTold):=bh (fun v x r=>ck r hq) hp
   have hpq1:Paired (rTI K (upd H' lp (.lst ps'))) ps' (ts'.map FG):=bh (fun v x r=>ck r hq) hpq'
   generalize upd H' lp (.lst ps')=H1 at st1 hs1 hv1 hq1 hp1 hpq1
   refine⟨_,rfl,ty,_,0,_,rfl,rfl,st1,rfl,?_⟩
   refine⟨_,rfl,ty,_,1,_,rfl,rfl,st1,rfl,?_⟩
   refine⟨_,rfl,ty,_,2,_,rfl,rfl,st1,rfl,?_⟩
   have hrev:(ts'++[t]).reverse.flatMap (BM.dS c)=BM.dS c t++ts'.reverse.flatMap (BM.dS c):=by
    rw [List.reverse_append,List.reverse_singleton,List.singleton_append,List.flatMap_cons]
   rw [hrev] at htot
   have ht':∀x∈ts',JK c x:=fun x hx=>hok x (List.mem_append_left _ hx)
   have hdl:done.length≤3780:=by
    have:=congrArg List.length htot
    rw [List.length_append] at this
    omega
   have caseA:(t.len=1∨t.free=c)→∀(v9:Option V) (H2:Hp) (r:V),Same H1 H2→rActsT K H2 r (BM.jR t.slot t.len)→C0 (.ref la) [r] H2 (fun _ H3=>∃m',m' < m∧yP K H n c vk la lp m' [some (.int (n:Int)),some (.int (c:Int)),some vk,some (.ref la),some (.ref lp),some (.ref ty),some (.int (t.len:Int)),some (.int (t.slot:Int)),some (.int (t.free:Int)),v9] H3):=by
    intro hcase v9 H2 r s2 hr
    obtain⟨lb,zs,rfl,hlb,hzs⟩:=hr
    have est:=BM.t8 (c:=c) okt.l1 hcase
    have hv2:=s2 la _ hv1
    have hzl:zs.length≤3780:=by
     rw [aJ hzs,List.length_map,←est]
     have:=congrArg List.length htot
     rw [List.length_append,List.length_append] at this
     omega
    refine⟨la,lb,us,zs,rfl,rfl,hv2,hlb,?_,⟨BM.p9 ts',by omega,_,_,_,_,_,us++zs,ps',done++BM.jR t.slot t.len,ts',rfl,(hs1.trans s2).upd1 na,af,?_,?_,?_,ht',rfl,by omega,?_⟩⟩
    ·have:=aJ hp1
     rw [List.length_map] at this
     have:=bc (n:=us.length+zs.length) (by omega)
     omega
    ·rw [List.map_append]
     exact d5 (bh (fun v x r=>ck (mTI _ _ _ _ s2 r) hv2) hp1) (bh (fun v x r=>ck r hv2) hzs)
    ·rw [aq nap.symm]; exact s2 lp _ hq1
    ·exact bh (fun v x r=>ck (mTI _ _ _ _ s2 r) hv2) hpq1
    ·rw [htot,est,List.append_assoc]
   have callA:∀(Q:VK),(∀H2 r,Same H1 H2→rActsT K H2 r (BM.jR t.slot t.len)→Q r H2)→wk K [.int (t.slot:Int),.int (t.len:Int)] H1 Q E0:=fun Q hQ=>bZ (t.slot,t.len) ⟨rfl,(by show t.len≤100; omega)⟩ fun H2 r s2 h2=>hQ H2 r s2 h2
   refine⟨_,rfl,rfl,_,rfl,dH (fun hl1=>?_) fun hl1=>?_⟩
   ·injection hl1 with hl1
    refine gy ⟨_,rfl,.inl ⟨rfl,_,SqL.of hv1⟩,_,rfl,_,rfl,?_⟩
    exact callA _ fun H2 r s2 h2=>caseA (.inl (by omega)) _ H2 r s2 h2
   have hl1:t.len≠1:=fun z=>hl1 (by rw [z]; rfl)
   refine⟨_,rfl,_,rfl,rfl,_,rfl,dH (fun hf=>?_) fun hf=>?_⟩
   ·injection hf with hf
    refine⟨_,rfl,.inl ⟨rfl,_,SqL.of hv1⟩,_,rfl,_,rfl,?_⟩
    exact callA _ fun H2 r s2 h2=>caseA (.inr (by omega)) _ H2 r s2 h2
   have hf:t.free < c:=by
    have:t.free≠c:=fun z=>hf (by rw [z])
    omega
   have est:=BM.vY (c:=c) (by omega:2≤t.len) hf
   obtain⟨p1,p2⟩:=BM.j9 (n:=t.len) (c:=c - t.free+1) (by omega)
   refine⟨_,rfl,_,rfl,_,rfl,_,_,rfl,rfl,_,_,rfl,rfl,_,rfl,?_⟩
   refine(show ka K [.int (t.len:Int),.int ((c:Int) - (t.free:Int)+1),vk] H1 _ E0 from bZ (t.len,c - t.free+1) ⟨_,(by rw [show((c:Int) - (t.free:Int)+1)=((c - t.free+1:Nat):Int) by omega]),gU (K:=K) mLI _ _ _ _ hs1 hk,(by show 2≤t.len; omega),(by show t.len≤60; omega),(by show 2≤c - t.free+1; omega),(by show c - t.free+1≤20; omega)⟩ fun H2 r s2 h2=>?_)
   have h2:r=.int (Vagrag.split t.len (c - t.free+1):Nat):=h2
   subst h2
   generalize Vagrag.split t.len (c - t.free+1)=j at est p1 p2
   have hv2:=s2 la _ hv1
   refine⟨_,rfl,.inl ⟨rfl,_,SqL.of hv2⟩,_,rfl,(by show 2≤sizeLine; decide),fun t1 h1=>⟨(by show 1≤sizeLine; decide),fun l1 h2=>⟨(by show 1≤sizeLine; decide),fun t2 h3=>⟨(by show 1≤sizeLine; decide),fun l2 h4=>⟨_,rfl,l2,(j:Int),_,rfl,rfl,af,(by omega),(by omega),?_,fun l3 h5=>?_⟩⟩⟩⟩⟩
   ·show 1*(j:Int).toNat≤sizeLine
    have:=bc (n:=j) (by omega)
    omega
   rw [show(j:Int).toNat=j by omega,qJ]
   have s1:=Same.new (o:=.tup [.int 0,.int (t.slot:Int)]) h1
   have s2':=Same.new (o:=.lst [.ref t1]) h2
   have s3:=Same.new (o:=.tup [.int 2]) h3
   have s4:=Same.new (o:=.lst [.ref t2]) h4
   have s5:=Same.new (o:=.lst (List.replicate j (.ref t2))) h5
   have s35:=(s3.trans s4).trans s5
   refine⟨l1,l3,_,_,rfl,rfl,s35 l1 _ af,af,?_,fun l4 h6=>?_⟩
   ·rw [List.length_replicate]
    show 1+j≤sizeLine
    have:=bc (n:=1+j) (by omega)
    omega
   have s6:=Same.new (o:=.lst ([.ref t1]++List.replicate j (.ref t2))) h6
   refine⟨_,rfl,(by show 2≤sizeLine; decide),fun t3 h7=>⟨(by show 1≤sizeLine; decide),fun l5 h8=>?_⟩⟩
   have s7:=Same.new (o:=.tup [.int 1,.int (t.free:Int)]) h7
   have s8:=Same.new (o:=.lst [.ref t3]) h8
   refine⟨l4,l5,_,_,rfl,rfl,(s7.trans s8) l4 _ af,af,?_,fun l6 h9=>?_⟩
   ·rw [List.length_append,List.length_replicate]
    show 1+j+1≤sizeLine
    have:=bc (n:=1+j+1) (by omega)
    omega
   have s9:=Same.new (o:=.lst ([.ref t1]++List.replicate j (.ref t2)++[.ref t3])) h9
   have sall:=((((s1.trans s2').trans s35).trans s6).trans (s7.trans s8)).trans s9
   have hla:=sall la _ hv2
   have q1:=(((s2'.trans s35).trans s6).trans (s7.trans s8)).trans s9
   have q2:=((s4.trans s5).trans s6).trans ((s7.trans s8).trans s9)
   have q3:=s8.trans s9
   have r1:rTI K _ (.ref t1) [0,(t.slot:Int)]:=⟨t1,rfl,SqT.of (q1 t1 _ af)⟩
   have r2:rTI K _ (.ref t2) [2]:=⟨t2,rfl,SqT.of (q2 t2 _ af)⟩
   have r3:rTI K _ (.ref t3) [1,(t.free:Int)]:=⟨t3,rfl,SqT.of (q3 t3 _ af)⟩
   refine⟨la,l6,_,_,rfl,rfl,hla,af,?_,?_⟩
   ·have e0:=aJ hp1
    rw [List.length_map] at e0
    rw [List.length_append,List.length_append,List.length_replicate]
    rw [sizeLine_eq]
    have e1:([V.ref t1]:List V).length=1:=rfl
    have e3:([V.ref t3]:List V).length=1:=rfl
    omega
   obtain⟨A9,hA9⟩:=IC sall
   rw [←hA9] at sall hla r1 r2 r3⊢
   have hp2:Paired (rTI K (upd A9 la (.lst (us++([V.ref t1]++List.replicate j (V.ref t2)++[V.ref t3]))))) (us++([V.ref t1]++List.replicate j (V.ref t2)++[V.ref t3])) ((done++(Vagrag.Act.take t.slot::(List.replicate j Vagrag.Act.step++[Vagrag.Act.keep t.free]))).map actTold):=by
    rw [List.map_append,List.map_cons,List.map_append,wT]
    refine d5 (bh (fun v x r=>ck (mTI _ _ _ _ (s2.trans sall) r) hla) hp1) ?_
    refine bh (fun v x r=>ck r hla) ?_
    exact .cons r1 (d5 (mE r2 j) (.cons r3 .nil))
   have hs2:=(hs1.trans (s2.trans sall)).upd1 (o:=.lst (us++([V.ref t1]++List.replicate j (V.ref t2)++[V.ref t3]))) na
   have hlp2:upd A9 la (.lst (us++([V.ref t1]++List.replicate j (V.ref t2)++[V.ref t3]))) lp=some (.lst ps'):=by rw [aq nap.symm]; exact(s2.trans sall) lp _ hq1
   have hpq2:Paired (rTI K (upd A9 la (.lst (us++([V.ref t1]++List.replicate j (V.ref t2)++[V.ref t3]))))) ps' (ts'.map FG):=bh (fun v x r=>ck (mTI _ _ _ _ (s2.trans sall) r) hla) hpq1
   have hla2:upd A9 la (.lst (us++([V.ref t1]++List.replicate j (V.ref t2)++[V.ref t3]))) la=some (.lst (us++([V.ref t1]++List.replicate j (V.ref t2)++[V.ref t3]))):=af
   generalize upd A9 la (.lst (us++([V.ref t1]++List.replicate j (V.ref t2)++[V.ref t3])))=H5 at hp2 hs2 hlp2 hpq2 hla2⊢
   have hpl:ps'.length≤119:=by
    have e:=aJ hpq1
    rw [List.length_map] at e
    rw [List.length_append,BM.iP] at hwl
    omega
   refine⟨_,rfl,.inl ⟨rfl,_,SqL.of hlp2⟩,_,rfl,_,rfl,_,rfl,(by show 3≤sizeLine; decide),fun ta h10=>⟨lp,_,_,rfl,rfl,(Same.new h10) lp _ hlp2,bc (by omega),?_⟩⟩
   have s10:=Same.new (o:=.tup [.int (j:Int),.int (t.slot:Int),.int (t.free:Int)]) h10
   have hlp3:=s10 lp _ hlp2
   have hla3:upd (upd H5 ta (.tup [.int (j:Int),.int (t.slot:Int),.int (t.free:Int)])) lp (.lst (ps'++[.ref ta])) la=some (.lst (us++([V.ref t1]++List.replicate j (V.ref t2)++[V.ref t3]))):=by rw [aq nap]; exact s10 la _ hla2
   have hlp4:upd (upd H5 ta (.tup [.int (j:Int),.int (t.slot:Int),.int (t.free:Int)])) lp (.lst (ps'++[.ref ta])) lp=some (.lst (ps'++[.ref ta])):=af
   have hp3:Paired (rTI K (upd (upd H5 ta (.tup [.int (j:Int),.int (t.slot:Int),.int (t.free:Int)])) lp (.lst (ps'++[.ref ta])))) (us++([V.ref t1]++List.replicate j (V.ref t2)++[V.ref t3])) ((done++(Vagrag.Act.take t.slot::(List.replicate j Vagrag.Act.step++[Vagrag.Act.keep t.free]))).map actTold):=bh (fun v x r=>ck (mTI _ _ _ _ s10 r) hlp3) hp2
   have hpq3:Paired (rTI K (upd (upd H5 ta (.tup [.int (j:Int),.int (t.slot:Int),.int (t.free:Int)])) lp (.lst (ps'++[.ref ta])))) (ps'++[.ref ta]) ((ts'++[(⟨j,t.slot,t.free⟩:BM.uS)]).map FG):=by
    rw [List.map_append]
    refine bz (bh (fun v x r=>ck (mTI _ _ _ _ s10 r) hlp3) hpq2) (ck ?_ hlp3)
    exact⟨ta,rfl,SqT.of af⟩
   have hs3:=(hs2.trans s10).upd1 (o:=.lst (ps'++[.ref ta])) np
   generalize upd (upd H5 ta (.tup [.int (j:Int),.int (t.slot:Int),.int (t.free:Int)])) lp (.lst (ps'++[.ref ta]))=H6 at hla3 hlp4 hp3 hpq3 hs3⊢
   refine⟨_,rfl,.inl ⟨rfl,_,SqL.of hlp4⟩,_,rfl,_,rfl,_,_,rfl,rfl,_,rfl,_,rfl,_,_,rfl,rfl,(by show 3≤sizeLine; decide),fun tb h11=>⟨lp,_,_,rfl,rfl,(Same.new h11) lp _ hlp4,bc (by rw [List.length_append]; show ps'.length+1≤100000; omega),?_⟩⟩
   have s11:=Same.new (o:=.tup [.int ((t.len:Int) - (j:Int)),.int (t.free:Int),.int ((t.free:Int)+1)]) h11
   have hlp5:=s11 lp _ hlp4
   refine⟨BM.p9 (ts'++[⟨j,t.slot,t.free⟩]++[⟨t.len - j,t.free,t.free+1⟩]),?_,_,_,_,_,_,_,_,_,ts'++[⟨j,t.slot,t.free⟩]++[⟨t.len - j,t.free,t.free+1⟩],rfl,(hs3.trans s11).upd1 np,by rw [aq nap]; exact s11 la _ hla3,bh (fun v x r=>ck (mTI _ _ _ _ s11 r) hlp5) hp3,af,?_,?_,rfl,?_,?_⟩
   ·rw [BM.iP,BM.iP]
    show BM.p9 ts'+(2*j - 1+0)+(2*(t.len - j) - 1+0) < m
    omega
   ·rw [List.map_append]
    refine bz (bh (fun v x r=>ck (mTI _ _ _ _ s11 r) hlp5) hpq3) (ck ?_ hlp5)
    refine⟨tb,rfl,SqT.of ?_⟩
    rw [af]
    show some (HO.tup [.int ((t.len:Int) - (j:Int)),.int (t.free:Int),.int ((t.free:Int)+1)])=some (HO.tup [.int ((t.len - j:Nat):Int),.int (t.free:Int),.int ((t.free+1:Nat):Int)])
    rw [show((t.len - j:Nat):Int)=(t.len:Int) - (j:Int) by omega,show((t.free+1:Nat):Int)=(t.free:Int)+1 by omega]
   ·intro x hx
    rcases List.mem_append.mp hx with hx | hx
    ·rcases List.mem_append.mp hx with hx | hx
     ·exact ht' x hx
     ·rw [List.mem_singleton.mp hx]; exact⟨p1,by show j≤60; omega,tf1,tfc⟩
    ·rw [List.mem_singleton.mp hx]; exact⟨by show 1≤t.len - j; omega,by show t.len - j≤60; omega,by show 1≤t.free+1; omega,by show t.free+1≤c; omega⟩
   ·rw [BM.iP,BM.iP]
    show BM.p9 ts'+(2*j - 1+0)+(2*(t.len - j) - 1+0)≤119
    omega
   ·rw [htot,est,List.reverse_append,List.reverse_append,List.reverse_singleton,List.reverse_singleton,List.singleton_append,List.singleton_append,List.flatMap_cons,List.flatMap_cons]
    simp only [List.append_assoc,List.cons_append,List.nil_append]
noncomputable abbrev gw:Stmt:=top 71
theorem sc_most_steps:aD ["c","t","columns","n"] ["c","t","columns"] (aw gw):=⟨rfl,rfl,rfl,by decide +kernel,rfl,by decide +kernel,by decide +kernel⟩
noncomputable def AY (K:PySem.W.Frag):Sp:=bP (fun (x:Nat×Nat) vs H=>∃v,vs=[.int (x.1:Int),.int (x.2:Int),v]∧b0 K (rLI K) H v (dG 20)∧1≤x.1∧x.1≤20) (fun x r _=>r=.int ((((Vagrag.row Vagrag.FAR x.1).drop 1).takeWhile fun y=>decide (y≤x.2)).length:Nat))
theorem ui {f:Addr} {fd:FuncData} (T:Tx P K mg base ad) (F:Fun K "most_steps" "most_steps" gw f fd):FnOk P w K mg base CX0 40 f fd ["c","t","columns"] (AY K):=by
 refine bb (F.ok sc_most_steps (fun vs H Q E h=>?_) (fun cdv A outer s H vs Q E hr h=>?_))
 ·obtain⟨x,⟨_,rfl,_⟩,_⟩:=h; rfl
 ·obtain⟨⟨c,t⟩,⟨vk,rfl,⟨ak,ks,rfl,hak,hpk⟩,hc1,hc20⟩,k⟩:=h
  have hc1:1≤c:=hc1
  have hc20:c≤20:=hc20
  have hpk:Paired (rLI K H) ks (dG 20):=hpk
  obtain⟨v1,hv1,⟨a1,rfl,ha1⟩⟩:=bt hpk (tH (c:=c - 1) (by omega))
  rw [show c - 1+1=c by omega] at ha1
  have hrl:(Vagrag.row 60 c).length=61:=BM.jj 60 c
  refine⟨_,(aj (ay (ba (KG rfl) rfl T.Ae z7 (aa (eK (own:=[("n",3)]) rfl sc_most_steps.nd (d8 rfl T.cN (aa (aR cu (aO rfl T.b7) am) ah)) (bH (N:=["c","t","columns","n"]) (sc:=aw gw) (by decide +kernel)) (fun _ _ _ _ _=>(a7 (i:=3) sc_most_steps.nd rfl (Or.inl rfl) (hf:=Or.inr rfl))) (fun _ _ _ _ _=>(C1 (aE C9 (aA (ixL (K:=K) rfl) (aA (ixL (K:=K) rfl) (pv 2) (aR fE (pv 0) am) (fun _ _=>rfl)) (pv 3) (fun _ _=>rfl)) (pv 1) (aK _)))) (fun _ _ _ _ _=>(pv 3))) ah)))),?_⟩
  refine⟨_,_,rfl,rfl,61,rfl,by decide,by decide,fun D hD=>?_⟩
  have hD:H D=none:=hD
  refine kz (lo:=0) (n:=61) (fun i H'=>Same H H'∧H' D=some (.lst ((eO ((List.range i).filter fun j=>decide ((Vagrag.row 60 c).getD j 0≤t))).map V.int)))
   ⟨Same.new hD,af⟩ ?_ ?_
  ·rintro i H' hi ⟨s1,hv⟩
   have e1:(Vagrag.row 60 c)[i]?= some ((Vagrag.row 60 c).getD i 0):=kK (by omega)
   refine⟨rfl,_,rfl,_,rfl,_,_,rfl,rfl,ak,_,_,_,rfl,rfl,s1.seq hak,bW (j:=c - 1) (by show(c:Int) - 1=_; omega) hv1,_,rfl,a1,_,_,_,rfl,rfl,s1.seq ha1,bW (j:=i) (by omega) (lG e1),_,rfl,_,_,rfl,rfl,_,rfl,dH (fun h=>?_) fun h=>?_⟩
   ·refine⟨_,rfl,_,hv,?_,s1.upd1 hD,?_⟩
    ·rw [List.length_map,gT]
     have:=List.length_filter_le (fun j=>decide ((Vagrag.row 60 c).getD j 0≤t)) (List.range i)
     rw [List.length_range] at this
     exact bc (by omega)
    ·rw [af,List.range_succ,List.filter_append,List.filter_cons,decide_eq_true (by omega:(Vagrag.row 60 c).getD i 0≤t),if_pos rfl,List.filter_nil,lF,List.map_append,Int.zero_add]
     rfl
   ·refine⟨s1,?_⟩
    rw [hv,List.range_succ,List.filter_append,List.filter_cons,decide_eq_false (by omega:¬(Vagrag.row 60 c).getD i 0≤t),if_neg Bool.false_ne_true,List.filter_nil,List.append_nil]
  ·rintro H' ⟨s1,hv⟩
   have h0:(0:Nat)∈(List.range 61).filter fun j=>decide ((Vagrag.row 60 c).getD j 0≤t):=List.mem_filter.mpr ⟨List.mem_range.mpr (by decide),decide_eq_true (by rw [BM.FX hc1 (by omega) (by omega)]; omega)⟩
   refine⟨D,eO ((List.range 61).filter fun j=>decide ((Vagrag.row 60 c).getD j 0≤t)),rfl,SqL.of hv,?_,fun m hm hmax=>?_⟩
   ·rw [gT]; exact List.length_pos_of_mem h0
   ·obtain⟨mm,hmm,rfl⟩:=List.mem_map.mp hm
    obtain⟨g1,g2⟩:=List.mem_filter.mp hmm
    have g1:=List.mem_range.mp g1
    refine k _ _ s1 ?_
    show V.int (mm:Int)=_
    rw [BM.Gi (t:=t) (m:=mm) hc1 (by omega) (of_decide_eq_true g2) fun y hy hle=>?_]
    have:=hmax (y:Int) (List.mem_map.mpr ⟨y,List.mem_filter.mpr ⟨List.mem_range.mpr (by omega),decide_eq_true hle⟩,rfl⟩)
    omega
noncomputable abbrev gH:Stmt:=top 72
theorem sc_fewest_slots:aD ["n","t","columns","before","column"] ["n","t","columns"] (aw gH):=⟨rfl,rfl,rfl,by decide +kernel,rfl,by decide +kernel,by decide +kernel⟩
noncomputable def FM (K:PySem.W.Frag):Sp:=bP (fun (x:Nat×Nat) vs H=>∃v,vs=[.int (x.1:Int),.int (x.2:Int),v]∧b0 K (rLI K) H v (dG 20)∧x.1≤60) (fun x r _=>r=.int ((((List.range Vagrag.SLOTS).find? fun i=>decide (Vagrag.least x.1 (i+1)≤x.2)).map fun i=>i+1).getD 0:Nat))
theorem ER {p:Nat→Bool} {n:Nat} (h:∀m,m < n→p m=false):(List.range n).find? p=none:=List.find?_eq_none.mpr fun x hx=>by rw [h x (List.mem_range.mp hx)]; exact Bool.false_ne_true
theorem qi {f:Addr} {fd:FuncData} (T:Tx P K mg base ad) (F:Fun K "fewest_slots" "fewest_slots" gH f fd):FnOk P w K mg base CX0 40 f fd ["n","t","columns"] (FM K):=by
 refine bb (F.ok sc_fewest_slots (fun vs H Q E h=>?_) (fun cdv A outer s H vs Q E hr h=>?_))
 ·obtain⟨x,⟨_,rfl,_⟩,_⟩:=h; rfl
 ·obtain⟨⟨n,t⟩,⟨vk,rfl,⟨ak,ks,rfl,hak,hpk⟩,h60⟩,k⟩:=h
  have h60:n≤60:=h60
  have hpk:Paired (rLI K H) ks (dG 20):=hpk
  have hkl:ks.length=20:=by rw [aJ hpk]; unfold dG; rw [List.length_map,List.length_range]
  refine⟨_,(ag (cV PassesOwn.never rfl (wA rfl T.eA (aa (pv 2) ah)) (rX rfl (cP (a7 (i:=3) sc_fewest_slots.nd rfl (Or.inl rfl) (hf:=Or.inl rfl)) (cP (a7 (i:=4) sc_fewest_slots.nd rfl (Or.inl rfl) (hf:=Or.inl rfl)) lE)))
    (aj (aS (aE C9 (aA aQ (pv 4) (pv 0) (fun _ _=>rfl)) (pv 1) (aK _)) (aj (ay (aR cu (pv 3) am))) aC)))
   (aj (ay am))),?_⟩
  refine⟨_,rfl,ak,ks,rfl,hak,?_⟩
  refine sV (K:=K) (a:=ak) (xs:=ks) (fun i σ H'=>∃v3 v4:Option V,σ=[some (.int (n:Int)),some (.int (t:Int)),some (.ref ak),v3,v4]∧Same H H'∧∀j,j < i→decide (Vagrag.least n (j+1)≤t)=false)
   ⟨none,none,rfl,Same.refl _,fun j hj=>absurd hj (Nat.not_lt_zero _)⟩ (fun i σ H' _ ⟨_,_,_,hs,_⟩=>hs.seq hak) ?_ ?_
  ·rintro i x σ H' tt hi ⟨v3,v4,rfl,hs,hno⟩ ht
   have hi20:i < 20:=by have:=(List.getElem?_eq_some_iff.mp hi).1; omega
   obtain⟨v1,hv1,hr1⟩:=bt hpk (tH (c:=i) hi20)
   rw [hi] at hv1
   have hv1:=Option.some.inj hv1
   subst hv1
   obtain⟨a1,rfl,ha1⟩:=hr1
   have s1:Same H (upd H' tt (.tup [.int (i:Nat),.ref a1])):=hs.trans (Same.new ht)
   have e1:(Vagrag.row 60 (i+1))[n]?= some ((Vagrag.row 60 (i+1)).getD n 0):=kK (by rw [BM.jj]; omega)
   have el:=BM.vx (n:=n) (N:=60) (c:=i+1) h60
   refine⟨tt,_,rfl,SqT.of af,rfl,_,_,rfl,_,_,rfl,rfl,?_⟩
   refine⟨_,rfl,_,rfl,a1,_,_,_,rfl,rfl,s1.seq ha1,bW (j:=n) rfl (lG e1),_,rfl,_,_,rfl,rfl,_,rfl,dH (fun h=>?_) fun h=>?_⟩
   ·refine⟨_,rfl,_,_,rfl,rfl,k _ _ s1 ?_⟩
    show V.int ((i:Int)+1)=_
    rw [BM.sW (n:=Vagrag.SLOTS) (j:=i) hi20 (decide_eq_true (by rw [el]; omega)) hno]
    rfl
   ·refine⟨_,_,rfl,s1,fun j hj=>?_⟩
    by_cases hji:j < i
    ·exact hno j hji
    ·have e:j=i:=by omega
     subst e
     exact decide_eq_false (by rw [el]; omega)
  ·rintro σ H' ⟨v3,v4,rfl,hs,hno⟩
   refine k _ _ hs ?_
   show V.int 0=_
   rw [hkl] at hno
   rw [ER (n:=Vagrag.SLOTS) hno]
   rfl
end
end B
namespace B
open PySem PySem.Spec PyProof.Rows L2
structure HSt where
 chain:Option Ch
 run:Option (Nat×List Rat)
structure oh (st:HSt):Prop where
 chain:∀c,st.chain=some c→pK c
 run:∀n x,st.run=some (n,x)→∃c,st.chain=some c∧x.length=c.parts∧Sms x∧1≤n∧n≤40
noncomputable def cX (c:Ch):Vagrag.Chain:=⟨c.parts,a6 c,c.outs⟩
noncomputable def ax (st:HSt):Vagrag.State:={chain:=st.chain.map cX,start:=(match st.run with | none=>[] | some r=>r.2.map BM.aB),n:=(match st.run with | none=>0 | some r=>r.1)}
theorem jp {c:Ch} (ok:pK c):∀l∈(cX c).code,BM.Low l:=fun l hl=>by
 have hl:l∈c.lines.map BM.aU:=hl
 obtain⟨r,hr,rfl⟩:=List.mem_map.mp hl
 exact(ok.wf r hr).low
noncomputable def a8 (st:HSt):Nat:=match st.chain with
 | none=>0
 | some c=>c.parts
theorem z0 (st:HSt):((ax st).chain.map fun c=>c.size).getD 0=a8 st:=by
 unfold ax a8
 cases st.chain <;> rfl
theorem EK {st:HSt} (ok:oh st) (h:st.run=none):(ax st).here=.error (-4):=by
 unfold Vagrag.State.here ax
 rw [h]
 cases hc:st.chain with
 | none=>rfl
 | some c=>
  have:=(ok.chain c hc).p1
  show(if ([]:List Vagraa.Frac).length≠(cX c).size∨(0:Nat)=0 then _ else _)=_
  rw [if_pos (.inr rfl)]
theorem zC {st:HSt} {c:Ch} {n:Nat} {x:List Rat} (ok:oh st) (hc:st.chain=some c) (h:st.run=some (n,x)):(ax st).here=match BM.bn (a6 c) c.outs n 0 x with
  | .ok l=>.ok (cX c,(x::l.map (BM.aY c.outs)).map (List.map BM.aB))
  | .error _=>.error (-5):=by
 obtain⟨c',hc',hl,_,hn,_⟩:=ok.run n x h
 rw [hc] at hc'
 have hc':=Option.some.inj hc'
 subst hc'
 unfold Vagrag.State.here ax
 rw [h,hc]
 show(if (x.map BM.aB).length≠c.parts∨n=0 then _ else match (cX c).states n 0 (x.map BM.aB) with | .ok xs=>Except.ok (cX c,xs) | .error _=>.error (-5))=_
 rw [if_neg (by rw [List.length_map]; omega),BM.mi (cX c) (jp (ok.chain c hc)) n 0 x]
 show(match (match BM.bn (a6 c) c.outs n 0 x with | .ok l=>Except.ok ((x::l.map (BM.aY c.outs)).map (List.map BM.aB)) | .error e=>.error e) with | .ok xs=>Except.ok (cX c,xs) | .error _=>.error (-5))=_
 cases BM.bn (a6 c) c.outs n 0 x <;> rfl
noncomputable def cD (r:Except Int (List Int)):List Int:=match r with
 | .ok l=>l
 | .error n=>[n]
noncomputable def Dj:Vagrag.Call→Bool
 | .chain _ _ _=>false
 | .run _ _=>false
 | _=>true
noncomputable def ans (s:Vagrag.State) (c:Vagrag.Call):List Int:=VagragNeutral.encode (Vagrag.step s c).2
theorem HX {s:Vagrag.State} {c:Vagrag.Call} (h:Dj c=true):Vagrag.out s c=(match s.asked c with | .ok l=>.ok (s,l) | .error n=>.error n):=by
 cases c <;> first | exact absurd h Bool.false_ne_true | (show(s.asked _ >>= fun l=>Except.ok (s,l))=_; cases s.asked _ <;> rfl)
theorem rj {s:Vagrag.State} {c:Vagrag.Call} (h:Dj c=true):(Vagrag.step s c).1=s∧ans s c=cD (s.asked c):=by
 unfold ans Vagrag.step
 rw [HX h]
 cases s.asked c <;> exact⟨rfl,rfl⟩
theorem j8 {s:Vagrag.State} {c:Vagrag.Call} {n:Int} (h:Vagrag.out s c=.error n):(Vagrag.step s c).1=s∧ans s c=[n]:=by
 unfold ans Vagrag.step
 rw [h]
 exact⟨rfl,rfl⟩
theorem rh {s u:Vagrag.State} {c:Vagrag.Call} {l:List Int} (h:Vagrag.out s c=.ok (u,l)):(Vagrag.step s c).1=u∧ans s c=l:=by
 unfold ans Vagrag.step
 rw [h]
 exact⟨rfl,rfl⟩
theorem bA {n lo hi:Int} (h:lo≤n∧n≤hi):Vagrag.ranged n lo hi=.ok n.toNat:=if_pos h
theorem bp {n lo hi:Int} (h:¬(lo≤n∧n≤hi)):Vagrag.ranged n lo hi=.error (-1):=if_neg h
theorem Je (l:List Int):Vagrag.acts l=match Vagrag.actsOf l with
  | none=>.error (-2)
  | some a=>if 2000 < a.length then .error (-7) else .ok a:=rfl
noncomputable def Sml (ns:List Int):Prop:=∀z∈ns,-(10 ^ 18)≤z∧z≤10 ^ 18
theorem G5 {n:Nat} (h:n≤10 ^ 18):Vagraa.bits n≤60:=BM.bits_le_iff.mpr (Nat.lt_of_le_of_lt h (by decide))
theorem K4 {n:Int} {d:Nat} (hd:1≤d) (hn:n.natAbs≤10 ^ 18) (hd':d≤10 ^ 18):BM.wt (mkRat n d)≤120:=by
 obtain⟨h1,h2⟩:=BM.gV n d (by omega)
 rw [BM.iw]
 have a1:Vagraa.bits (mkRat n d).num.natAbs≤60:=by
  refine G5 (Nat.le_trans ?_ hn)
  rw [h1]
  exact Int.natAbs_ediv_le_natAbs ..
 have a2:Vagraa.bits (mkRat n d).den≤60:=by
  refine G5 (Nat.le_trans ?_ hd')
  rw [h2]
  exact Nat.div_le_self ..
 omega
theorem rT:∀(n:Nat) (l:List Int) (qs:List Rat),l.length≤n→Sml l→BM.ratsOf l=some qs→Sms qs
 | _,[],qs,_,_,h=>by
  have h:[]=qs:=by unfold BM.ratsOf at h; exact Option.some.inj h
  subst h
  intro q hq
  cases hq
 | _,[a],qs,_,_,h=>by unfold BM.ratsOf at h; cases h
 | 0,a::b::r,qs,hn,_,h=>absurd hn (by simp)
 | n+1,a::b::r,qs,hn,hs,h=>by
  unfold BM.ratsOf at h
  split at h
  ·cases h
  ·rename_i hb
   cases hr:BM.ratsOf r with
   | none=>rw [hr] at h; cases h
   | some ps=>
    rw [hr] at h
    have h:mkRat a b.toNat::ps=qs:=Option.some.inj h
    have ih:=rT n r ps (by simp at hn; omega) (fun z hz=>hs z (List.mem_cons_of_mem _ (List.mem_cons_of_mem _ hz))) hr
    rw [←h]
    intro q hq
    rcases List.mem_cons.mp hq with e | e
    ·rw [e]
     have ha:=hs a (List.mem_cons_self ..)
     have hb':=hs b (List.mem_cons_of_mem _ (List.mem_cons_self ..))
     exact Nat.le_trans (K4 (by omega) (by omega) (by omega)) (by decide)
    ·exact ih q e
theorem iU {ns:List Int} {c:Nat} {qs:List Rat} (hs:Sml ns) (h:BM.rdF ns c=some qs):Sms qs:=by
 unfold BM.rdF at h
 cases hr:BM.ratsOf ns with
 | none=>rw [hr] at h; cases h
 | some fs=>
  rw [hr] at h
  have h:(if fs.length=c then some fs else none)=some qs:=h
  split at h
  ·have h:=Option.some.inj h
   rw [←h]
   exact rT ns.length ns fs (Nat.le_refl _) hs hr
  ·cases h
end B
namespace B
open PySem PySem.Spec PyProof.Rows L2
open Vagrag (Game actTold)
section
variable {P:Program} {w:World} {K:PySem.W.Frag} {mg:Str→Option Value} {base:Heap} {ad:Ad}
noncomputable abbrev rK:Stmt:=top 99
theorem Ef:aD ["number","low","high"] ["number","low","high"] (aw rK):=⟨rfl,rfl,rfl,by decide +kernel,rfl,by decide +kernel,by decide +kernel⟩
noncomputable def cO:Sp:=fun vs H Q _=>∃a b c:Int,vs=[.int a,.int b,.int c]∧Q (.bl (decide (b≤a∧a≤c))) H
theorem Ek {f:Addr} {fd:FuncData} (T:Tx P K mg base ad) (F:Fun K "within" "within" rK f fd):FnOk P w K mg base CX0 40 f fd ["number","low","high"] cO:=by
 refine F.ok Ef (fun vs H Q E h=>?_) (fun cdv A outer s H vs Q E hr h=>?_)
 ·obtain⟨_,_,_,rfl,_⟩:=h; rfl
 ·obtain⟨a,b,c,rfl,k⟩:=h
  refine⟨_,(aj (ay (Kb (nv C9 (pv 1) (pv 0) (aK _)) (J8 (nv C9 (pv 0) (pv 2) (aK _)))))),?_⟩
  refine⟨_,rfl,_,rfl,_,_,rfl,rfl,_,rfl,dH (fun h1=>?_) fun h1=>?_⟩
  ·refine⟨_,rfl,_,rfl,_,_,rfl,rfl,?_⟩
   have e:decide (b≤a∧a≤c)=decide (a≤c):=by simp [h1]
   rw [e] at k
   exact k
  ·rw [decide_eq_false (fun z=>h1 z.1)] at k
   exact k
noncomputable abbrev gJ:Stmt:=top 100
theorem qa:aD ["acts"] ["acts"] (aw gJ):=⟨rfl,rfl,rfl,by decide +kernel,rfl,by decide +kernel,by decide +kernel⟩
noncomputable def qB (o:Option (List Vagrag.Act)):Int:=match o with
 | none=>-2
 | some a=>if 2000 < a.length then -7 else 0
noncomputable def A1 (K:PySem.W.Frag):Sp:=fun vs H Q _=>∃v o,vs=[v]∧cf (pO K) H v o∧Q (.int (qB o)) H
theorem qk {f:Addr} {fd:FuncData} (T:Tx P K mg base ad) (F:Fun K "acts_refusal" "acts_refusal" gJ f fd):FnOk P w K mg base CX0 40 f fd ["acts"] (A1 K):=by
 refine F.ok qa (fun vs H Q E h=>?_) (fun cdv A outer s H vs Q E hr h=>?_)
 ·obtain⟨_,_,rfl,_⟩:=h; rfl
 ·obtain⟨v,o,rfl,ho,k⟩:=h
  refine⟨_,(ag (aS (aE eM (pv 0) bM (aK _)) (aj (ay (aO rfl T.dr))) aC)
   (ag (aS (aE vm (ba (iX (K:=K) rfl) rfl T.du PySem.boot_len (aa (pv 0) ah)) (aO rfl T.io) (aK _)) (aj (ay (aO rfl T.g6))) aC)
   (aj (ay am)))),?_⟩
  cases o with
  | none=>
   have ho:v=.non:=ho
   subst ho
   exact⟨_,rfl,rfl,_,rfl,cp rfl k⟩
  | some a=>
   obtain⟨hne,al,us,rfl,hal,hp⟩:=ho
   have hl:=aJ hp
   rw [List.length_map] at hl
   refine⟨_,rfl,rfl,_,rfl,aM hne ?_⟩
   refine⟨_,rfl,al,_,rfl,.inl hal,_,_,rfl,rfl,_,rfl,dH (fun h=>?_) fun h=>?_⟩
   ·have e:qB (some a)=-7:=if_pos (by omega)
    rw [e] at k
    exact k
   ·have e:qB (some a)=0:=if_neg (by omega)
    rw [e] at k
    exact k
noncomputable abbrev fq:Stmt:=top 101
theorem sc_told_fractions:aD ["row","told","numerator","fraction"] ["row"] (aw fq):=⟨rfl,rfl,rfl,by decide +kernel,rfl,by decide +kernel,by decide +kernel⟩
noncomputable def rLT:Rep (List Int):=fun H v ns=>∃a,v=.ref a∧H a=some (.lst (ns.map V.int))
noncomputable def mj (K:PySem.W.Frag):Sp:=bP (fun (x:List Int×Int) vs H=>∃v,vs=[v]∧dg K H v x∧0 < x.2∧x.1.length≤1000) (fun x r H=>rLT H r (cD (BM.dh (BM.val x))))
theorem o5:∀l:List Rat,(l.flatMap fun q=>[q.num,(q.den:Int)]).length=2*l.length
 | []=>rfl
 | q::r=>by
  rw [List.flatMap_cons,List.length_append,o5 r]
  show 2+2*r.length=2*(r.length+1)
  omega
theorem ny {f:Addr} {fd:FuncData} (T:Tx P K mg base ad) (F:Fun K "told_fractions" "told_fractions" fq f fd) (gc:Fb P w K mg base 41 "lowest_within" ["numerator","denominator","most"] (AZ K)):FnOk P w K mg base CX0 42 f fd ["row"] (mj K):=by
 refine bb (F.ok sc_told_fractions (fun vs H Q E h=>?_) (fun cdv A outer s H vs Q E hr h=>?_))
 ·obtain⟨x,⟨_,rfl,_⟩,_⟩:=h; rfl
 ·obtain⟨⟨ns,d⟩,⟨v,rfl,⟨pr,y1,y2,rfl,hpr,⟨an,rfl,han⟩,hy2⟩,hd,hn⟩,k⟩:=h
  have hy2:y2=.int d:=hy2
  subst hy2
  have hd:0 < d:=hd
  have hn:ns.length≤1000:=hn
  have han:SqL K H an (ns.map V.int):=han
  refine⟨_,(ag (aF (i:=1) sc_told_fractions.nd rfl (Or.inl rfl) (aN (aa (ba (iX (K:=K) rfl) rfl T.du PySem.boot_len (aa (aA aG (pv 0) am (fun _ _=>rfl)) ah)) ah)))
   (ag (cV PassesOwn.never rfl (bQ (aA aG (pv 0) am (fun _ _=>rfl))) (a7 (i:=2) sc_told_fractions.nd rfl (Or.inl rfl) (hf:=Or.inl rfl))
    (ag (aF (i:=3) sc_told_fractions.nd rfl (Or.inl rfl) (aP gc (hr.mono (by decide)) rfl (aa (pv 2) (aa (aA aG (pv 0) am (fun _ _=>rfl)) (aa (aO rfl T.cK) ah)))))
    (ag (aS (aE eM (pv 3) bM (aK _)) (aj (ay (aN (aa (aO rfl T.cJ) ah)))) aC)
    (aj (bX (d9 PySem.F.plainAttrs_list PySem.F.slot_list_extend PySem.F.type_list_extend sA (pv 1) (aa (pv 3) ah)))))))
   (aj (ay (pv 1))))),?_⟩
  refine⟨_,rfl,pr,_,0,_,rfl,rfl,hpr,rfl,an,_,rfl,.inl han,(by show 1≤sizeLine; decide),fun l hl'=>?_⟩
  have nl:H l=none:=hl'
  have s0:=Same.new (o:=.lst [.int ((ns.map V.int).length:Nat)]) nl
  refine⟨_,rfl,pr,_,0,_,rfl,rfl,s0.tup hpr,rfl,an,rfl,⟨_,s0.seq han⟩,?_⟩
  refine eZ (K:=K) (a:=an) (xs:=ns.map V.int) (fun i σ H'=>∃v2 v3:Option V,σ=[some (.ref pr),some (.ref l),v2,v3]∧Same H H'∧H' l=some (.lst (((ns.length:Int)::((BM.val (ns,d)).take i).flatMap fun q=>[q.num,(q.den:Int)]).map V.int))∧∀q∈(BM.val (ns,d)).take i,¬4000 < BM.wt q)
   ⟨none,none,rfl,s0,by rw [af,List.length_map]; rfl,fun q hq=>nomatch hq⟩ (fun i σ H' _ ⟨_,_,_,hs,_⟩=>hs.seq han) ?_ ?_
  ·rintro i x σ H' hx ⟨v2,v3,rfl,hs,hv,hno⟩
   obtain⟨m,hm,rfl⟩:=dE hx
   have hq:(BM.val (ns,d))[i]?= some (Rat.divInt m d):=by unfold BM.val; rw [List.getElem?_map,hm]; rfl
   have hlt:=(List.getElem?_eq_some_iff.mp hm).1
   have et:(BM.val (ns,d)).take (i+1)=(BM.val (ns,d)).take i++[Rat.divInt m d]:=by
    obtain⟨b1,b2⟩:=List.getElem?_eq_some_iff.mp hq
    rw [List.take_succ_eq_append_getElem b1,b2]
   refine⟨_,rfl,_,rfl,pr,_,1,_,rfl,rfl,hs.tup hpr,rfl,?_⟩
   refine(show AZ K [.int m,.int d,.int 4000] H' _ E0 from bZ ((m,d),4000) ⟨rfl,hd,by show 4000≤1000000; decide⟩ fun H2 r s2 h2=>?_)
   have h2:cf (rFr K) H2 r (if 4000 < BM.wt (Rat.divInt m d) then none else some (Rat.divInt m d)):=h2
   by_cases hw:4000 < BM.wt (Rat.divInt m d)
   ·rw [if_pos hw] at h2
    have h2:r=.non:=h2
    subst h2
    refine⟨_,rfl,rfl,_,rfl,cp rfl ⟨(by show 1≤sizeLine; decide),fun l2 hl2=>k _ _ ((hs.trans s2).trans (Same.new hl2)) ⟨l2,rfl,?_⟩⟩⟩
    have ha:((BM.val (ns,d)).any fun q=>decide (4000 < BM.wt q))=true:=List.any_eq_true.mpr ⟨_,List.mem_of_getElem? hq,decide_eq_true hw⟩
    have e:BM.dh (BM.val (ns,d))=.error (-6):=by unfold BM.dh; rw [ha,if_pos rfl]
    rw [af,e]
    rfl
   ·rw [if_neg hw] at h2
    obtain⟨hne,fa,rfl,hfa⟩:=h2
    have hv2:=s2 _ _ hv
    refine⟨_,rfl,rfl,_,rfl,aM hne ?_⟩
    refine⟨_,rfl,.inl ⟨rfl,_,SqL.of hv2⟩,_,rfl,l,fa,_,_,rfl,rfl,hv2,hfa,?_,⟨_,_,rfl,(hs.trans s2).upd1 nl,?_,?_⟩⟩
    ·have e1:=o5 ((BM.val (ns,d)).take i)
     rw [List.length_map,List.length_cons,e1,List.length_take]
     rw [sizeLine_eq]
     show _+2≤_
     omega
    ·rw [af,et,List.flatMap_append]
     simp
    ·intro q hq'
     rw [et] at hq'
     rcases List.mem_append.mp hq' with e | e
     ·exact hno q e
     ·rw [List.mem_singleton.mp e]; exact hw
  ·rintro σ H' ⟨v2,v3,rfl,hs,hv,hno⟩
   have hvl:(BM.val (ns,d)).length=ns.length:=BM.jd _
   rw [List.length_map,←hvl,List.take_length,hvl] at hv
   rw [List.length_map,←hvl,List.take_length] at hno
   refine⟨_,rfl,k _ _ hs ⟨l,rfl,?_⟩⟩
   have ha:((BM.val (ns,d)).any fun q=>decide (4000 < BM.wt q))=false:=List.any_eq_false.mpr fun q hq z=>hno q hq (of_decide_eq_true z)
   have e:BM.dh (BM.val (ns,d))=.ok (((BM.val (ns,d)).length:Int)::(BM.val (ns,d)).flatMap fun q=>[q.num,(q.den:Int)]):=by unfold BM.dh; rw [ha,if_neg Bool.false_ne_true]
   rw [hv,e,hvl]
   rfl
noncomputable def rCols (K:PySem.W.Frag) (H:Hp) (v:V):Prop:=(∃a,v=.ref a∧H a=some (.lst []))∨b0 K (rLI K) H v (dG 20)
structure HoldAt (K:PySem.W.Frag) (ad:Ad) (h dx:Addr) (vc vr vk:V) (st:HSt) (H:Hp):Prop where
 obj:H h=some (.ins (ad.cls "Holder") dx (holdK.zip [vc,vr,vk]))
 chain:cf (rChain K (ad.cls "Chain")) H vc st.chain
 run0:st.run=none→vr=.non
 run1:∀n x,st.run=some (n,x)→∃c p dx ls lw lf vt,st.chain=some c∧vr=.ref p∧RunAt K (ad.cls "Run") c n x p dx ls lw lf vt H
 cols:rCols K H vk
 ok:oh st
theorem RunAt.mono {C:Addr} {c:Ch} {n:Nat} {x:List Rat} {p dx ls lw lf:Addr} {vt:V} {H H':Hp} (r:RunAt K C c n x p dx ls lw lf vt H) (s:Same H H'):RunAt K C c n x p dx ls lw lf vt H' where
 obj:=s _ _ r.obj
 good:=fun l e=>by
  obtain⟨h1,h2,h3,h4⟩:=r.good l e
  refine⟨s _ _ h1,gU (gU mFr) _ _ _ _ s h2,gU (gU mFr) _ _ _ _ s h3,?_⟩
  rcases h4 with⟨q,e,h⟩ | ⟨ts,h,h'⟩
  ·exact .inl ⟨q,e,s _ _ h⟩
  ·exact .inr ⟨ts,gU EE _ _ _ _ s h,h'⟩
 bad:=fun i e h=>s _ _ (r.bad i e h)
theorem RunAt.monoN {C:Addr} {c:Ch} {n:Nat} {x:List Rat} {p dx ls lw lf:Addr} {vt:V} {H H':Hp} (r:RunAt K C c n x p dx ls lw lf vt H) (s:SameN H H') (hp:H' p=H p):RunAt K C c n x p dx ls lw lf vt H' where
 obj:=by rw [hp]; exact r.obj
 good:=fun l e=>by
  obtain⟨h1,h2,h3,h4⟩:=r.good l e
  refine⟨s _ _ h1 rfl,mG (mG nFr) _ _ _ _ s h2,mG (mG nFr) _ _ _ _ s h3,?_⟩
  rcases h4 with⟨q,e,h⟩ | ⟨ts,h,h'⟩
  ·exact .inl ⟨q,e,s _ _ h rfl⟩
  ·exact .inr ⟨ts,mG Lv _ _ _ _ s h,h'⟩
 bad:=fun i e h=>s _ _ (r.bad i e h) rfl
theorem rCols.mono {H H':Hp} {v:V} (h:rCols K H v) (s:SameN H H'):rCols K H' v:=by
 rcases h with⟨a,e,h⟩ | h
 ·exact .inl ⟨a,e,s _ _ h rfl⟩
 ·exact .inr (mG nLI _ _ _ _ s h)
theorem rChain.monoX {C q:Addr} {H H':Hp} {v:V} {c:Ch} {C' dx':Addr} {fs:List (Str×V)} (h:rChain K C H v c) (s:SameX q H H') (hq:H q=some (.ins C' dx' fs)) (hf:fs.lookup ("parts": Str)=none):rChain K C H' v c:=by
 obtain⟨p,dx,vl,vo,e,h1,h2,h3⟩:=h
 have sn:=s.n hq
 refine⟨p,dx,vl,vo,e,s _ _ h1 fun z=>?_,mG nTI _ _ _ _ sn h2,nLI _ _ _ _ sn h3⟩
 rw [z,hq] at h1
 have h1:=Option.some.inj h1
 injection h1 with _ _ h1
 rw [h1,lR] at hf
 cases hf
theorem pT {H:Hp} {h p C dx C' dx':Addr} {vs us:List V} (e:H h=some (.ins C dx (holdK.zip vs))) (e':H p=some (.ins C' dx' (runK.zip us))) (hv:vs.length=3):h≠p:=fun z=>by
 rw [z,e'] at e
 have e:=Option.some.inj e
 injection e with _ _ e
 obtain⟨v0,hv0⟩:∃v0,vs[0]?= some v0:=⟨_,List.getElem?_eq_getElem (by omega)⟩
 have h1:=cF pW (i:=0) (f:="chain") rfl hv0
 rw [←e,bJ (f:="chain") (ks:=runK) (by decide +kernel)] at h1
 cases h1
theorem HoldAt.mono {h dx:Addr} {vc vr vk:V} {st:HSt} {H H':Hp} (a:HoldAt K ad h dx vc vr vk st H) (s:Same H H'):HoldAt K ad h dx vc vr vk st H' where
 obj:=s _ _ a.obj
 chain:=by
  have:=a.chain
  revert this
  cases st.chain with
  | none=>exact id
  | some c=>exact fun z=>⟨z.1,Gp _ _ _ _ s z.2⟩
 run0:=a.run0
 run1:=fun n x e=>by
  obtain⟨c,p,dx,ls,lw,lf,vt,h1,h2,h3⟩:=a.run1 n x e
  exact⟨c,p,dx,ls,lw,lf,vt,h1,h2,h3.mono s⟩
 cols:=a.cols.mono s.n
 ok:=a.ok
theorem HoldAt.ch {h dx:Addr} {vc vr vk:V} {st:HSt} {H:Hp} (a:HoldAt K ad h dx vc vr vk st H) {c:Ch} (e:st.chain=some c):rChain K (ad.cls "Chain") H vc c:=by
 have:=a.chain
 rw [e] at this
 exact this.2
theorem HoldAt.nc {h dx:Addr} {vc vr vk:V} {st:HSt} {H:Hp} (a:HoldAt K ad h dx vc vr vk st H) (e:st.chain=none):vc=.non:=by
 have:=a.chain
 rw [e] at this
 exact this
theorem HoldAt.f_chain {vc vr vk:V}:(holdK.zip [vc,vr,vk]).lookup ("chain": Str)=some vc:=cF pW (i:=0) rfl rfl
theorem HoldAt.f_run {vc vr vk:V}:(holdK.zip [vc,vr,vk]).lookup ("run": Str)=some vr:=cF pW (i:=1) rfl rfl
theorem HoldAt.f_cols {vc vr vk:V}:(holdK.zip [vc,vr,vk]).lookup ("columns": Str)=some vk:=cF pW (i:=2) rfl rfl
theorem HoldAt.tabs {h dx:Addr} {vc vr vk:V} {st:HSt} {H H':Hp} {c:Ch} {n:Nat} {x:List Rat} {p dxr ls lw lf:Addr} {vt vt':V} (a:HoldAt K ad h dx vc vr vk st H) (hc:st.chain=some c) (hr:st.run=some (n,x)) (hv:vr=.ref p) (R:RunAt K (ad.cls "Run") c n x p dxr ls lw lf vt H) (s:SameX p H H') (R':RunAt K (ad.cls "Run") c n x p dxr ls lw lf vt' H'):HoldAt K ad h dx vc vr vk st H' where
 obj:=s _ _ a.obj (pT a.obj R.obj rfl)
 chain:=by
  have e:=a.ch hc
  rw [hc]
  refine⟨?_,e.monoX s R.obj (bJ (by decide +kernel))⟩
  obtain⟨_,_,_,_,rfl,_⟩:=e
  intro z
  cases z
 run0:=a.run0
 run1:=fun n' x' e=>by
  rw [hr] at e
  have e:=Option.some.inj e
  injection e with e1 e2
  subst e1 e2
  exact⟨c,p,dxr,ls,lw,lf,vt',hc,hv,R'⟩
 cols:=a.cols.mono (s.n R.obj)
 ok:=a.ok
noncomputable def db (st:HSt):Int:=match st.run with
 | none=>-4
 | some (n,x)=>match st.chain with
  | none=>-4
  | some c=>match BM.bn (a6 c) c.outs n 0 x with
   | .ok _=>0
   | .error _=>-5
theorem zD {st:HSt} (ok:oh st) (h:db st≠0):(ax st).here=.error (db st):=by
 unfold db at h⊢
 cases hr:st.run with
 | none=>exact EK ok hr
 | some r=>
  obtain⟨n,x⟩:=r
  obtain⟨c,hc,_⟩:=ok.run n x hr
  rw [hr,hc] at h
  rw [hc]
  rw [zC ok hc hr]
  show _=Except.error (match BM.bn (a6 c) c.outs n 0 x with | .ok _=>0 | .error _=>-5)
  have h:(match BM.bn (a6 c) c.outs n 0 x with | .ok _=>(0:Int) | .error _=>-5)≠0:=h
  cases ht:BM.bn (a6 c) c.outs n 0 x with
  | ok l=>rw [ht] at h; exact absurd rfl h
  | error e=>rfl
theorem dN {st:HSt} (ok:oh st) (h:db st=0):∃c n x l,st.chain=some c∧st.run=some (n,x)∧BM.bn (a6 c) c.outs n 0 x=.ok l∧x.length=c.parts∧Sms x∧1≤n∧n≤40:=by
 unfold db at h
 cases hr:st.run with
 | none=>rw [hr] at h; cases h
 | some r=>
  obtain⟨n,x⟩:=r
  obtain⟨c,hc,h1,h2,h3,h4⟩:=ok.run n x hr
  rw [hr,hc] at h
  have h:(match BM.bn (a6 c) c.outs n 0 x with | .ok _=>(0:Int) | .error _=>-5)=0:=h
  cases ht:BM.bn (a6 c) c.outs n 0 x with
  | ok l=>exact⟨c,n,x,l,hc,rfl,ht,h1,h2,h3,h4⟩
  | error e=>rw [ht] at h; cases h
noncomputable abbrev di:Stmt:=bO (top 98) 18
theorem jV:aD ["self"] ["self"] (aw di):=⟨rfl,rfl,rfl,by decide +kernel,rfl,by decide +kernel,by decide +kernel⟩
noncomputable def AV (K:PySem.W.Frag) (ad:Ad):Sp:=fun vs H Q _=>∃(h dx:Addr) (vc vr vk:V) (st:HSt),vs=[.ref h]∧HoldAt K ad h dx vc vr vk st H∧Q (.int (db st)) H
theorem sg {f:Addr} {fd:FuncData} (T:Tx P K mg base ad) (F:Fun K "run_refusal" "Holder.run_refusal" di f fd):FnOk P w K mg base CX0 40 f fd ["self"] (AV K ad):=by
 refine F.ok jV (fun vs H Q E h=>?_) (fun cdv A outer s H vs Q E hr h=>?_)
 ·obtain⟨_,_,_,_,_,_,rfl,_⟩:=h; rfl
 ·obtain⟨h,dx,vc,vr,vk,st,rfl,a,k⟩:=h
  refine⟨_,(ag (aS (aE eM (aV (pv 0) rfl) bM (aK _)) (aj (ay (aO rfl T.kN))) aC)
   (ag (aS (aW (aV (aV (pv 0) rfl) rfl) (fun _=>rfl)) (aj (ay (aO rfl T.ip))) aC)
   (aj (ay am)))),?_⟩
  refine⟨_,rfl,h,_,dx,_,vr,rfl,a.obj,T.aH,T.n_Holder_run,HoldAt.f_run,rfl,_,rfl,?_⟩
  cases hrun:st.run with
  | none=>
   have e:=a.run0 hrun
   subst e
   have e:db st=-4:=by unfold db; rw [hrun]
   rw [e] at k
   exact cp rfl k
  | some r=>
   obtain⟨n,x⟩:=r
   obtain⟨c,p,dxr,ls,lw,lf,vt,hc,rfl,R⟩:=a.run1 n x hrun
   refine aM (fun z=>by cases z) ?_
   refine⟨_,rfl,h,_,dx,_,.ref p,rfl,a.obj,T.aH,T.n_Holder_run,HoldAt.f_run,p,_,dxr,_,.ref lf,rfl,R.obj,T.ci,T.n_Run_fault,cF kj (i:=3) rfl rfl,?_⟩
   cases ht:BM.bn (a6 c) c.outs n 0 x with
   | ok l=>
    have e:db st=0:=by unfold db; rw [hrun,hc]; simp only [ht]
    rw [e] at k
    exact⟨false,.inl ⟨_,SqL.of (R.good l ht).1,rfl⟩,jq k⟩
   | error er=>
    obtain⟨i,er⟩:=er
    have e:db st=-5:=by unfold db; rw [hrun,hc]; simp only [ht]
    rw [e] at k
    exact⟨true,.inl ⟨_,SqL.of (R.bad i er ht),rfl⟩,gy k⟩
noncomputable abbrev cb:Stmt:=bO (top 98) 17
theorem gr:aD ["self","fractions"] ["self","fractions"] (aw cb):=⟨rfl,rfl,rfl,by decide +kernel,rfl,by decide +kernel,by decide +kernel⟩
noncomputable def rq (K:PySem.W.Frag) (ad:Ad):Sp:=fun vs H Q _=>∃(h dx:Addr) (vc vr vk v:V) (st:HSt),vs=[.ref h,v]∧HoldAt K ad h dx vc vr vk st H∧Q (.int (if v=.non then -2 else db st)) H
theorem ku {f:Addr} {fd:FuncData} (T:Tx P K mg base ad) (F:Fun K "fractions_refusal" "Holder.fractions_refusal" cb f fd) (bG:Mb P w K mg base (ad.cls "Holder") 40 "run_refusal" ["self"] (AV K ad)):FnOk P w K mg base CX0 41 f fd ["self","fractions"] (rq K ad):=by
 refine F.ok gr (fun vs H Q E h=>?_) (fun cdv A outer s H vs Q E hr h=>?_)
 ·obtain⟨_,_,_,_,_,_,_,rfl,_⟩:=h; rfl
 ·obtain⟨h,dx,vc,vr,vk,v,st,rfl,a,k⟩:=h
  refine⟨_,(aj (ay (iW (aE eM (pv 1) bM (aK _)) (aO rfl T.dr) (gb bG (pv 0) (hr.mono (by decide)))))),?_⟩
  refine⟨_,rfl,rfl,_,rfl,dH (fun hv=>?_) fun hv=>?_⟩
  ·rw [if_pos hv] at k
   exact k
  ·rw [if_neg hv] at k
   exact⟨_,rfl,h,dx,_,rfl,a.obj,bJ (by decide +kernel),h,dx,vc,vr,vk,st,rfl,a,k⟩
noncomputable abbrev dj:Stmt:=bO (top 98) 16
theorem jW:aD ["self"] ["self"] (aw dj):=⟨rfl,rfl,rfl,by decide +kernel,rfl,by decide +kernel,by decide +kernel⟩
noncomputable def ni (K:PySem.W.Frag) (ad:Ad):Sp:=fun vs H Q _=>∃(h dx:Addr) (vc vr vk:V) (st:HSt),vs=[.ref h]∧HoldAt K ad h dx vc vr vk st H∧Q (.int (a8 st:Nat)) H
theorem sh {f:Addr} {fd:FuncData} (T:Tx P K mg base ad) (F:Fun K "count_parts" "Holder.count_parts" dj f fd):FnOk P w K mg base CX0 40 f fd ["self"] (ni K ad):=by
 refine F.ok jW (fun vs H Q E h=>?_) (fun cdv A outer s H vs Q E hr h=>?_)
 ·obtain⟨_,_,_,_,_,_,rfl,_⟩:=h; rfl
 ·obtain⟨h,dx,vc,vr,vk,st,rfl,a,k⟩:=h
  refine⟨_,(aj (ay (iW (aE eM (aV (pv 0) rfl) bM (aK _)) am (aV (aV (pv 0) rfl) rfl)))),?_⟩
  refine⟨_,rfl,h,_,dx,_,vc,rfl,a.obj,T.aH,T.n_Holder_chain,HoldAt.f_chain,rfl,_,rfl,?_⟩
  cases hc:st.chain with
  | none=>
   have e:=a.nc hc
   subst e
   have e:a8 st=0:=by unfold a8; rw [hc]
   rw [e] at k
   exact cp rfl k
  | some c=>
   have e:a8 st=c.parts:=by unfold a8; rw [hc]
   rw [e] at k
   obtain⟨pc,dxc,vl,vo,rfl,hpc,_⟩:=a.ch hc
   refine aM (fun z=>by cases z) ?_
   exact⟨_,rfl,h,_,dx,_,.ref pc,rfl,a.obj,T.aH,T.n_Holder_chain,HoldAt.f_chain,pc,_,dxc,_,_,rfl,hpc,T.bU,T.n_Chain_parts,lR ..,k⟩
noncomputable abbrev dl:Stmt:=bO (top 98) 19
theorem jX:aD ["self"] ["self"] (aw dl):=⟨rfl,rfl,rfl,by decide +kernel,rfl,by decide +kernel,by decide +kernel⟩
noncomputable def mn (K:PySem.W.Frag) (ad:Ad):Sp:=fun vs H Q _=>∃(h dx:Addr) (vc vr vk:V) (st:HSt),vs=[.ref h]∧HoldAt K ad h dx vc vr vk st H∧∀H' vk',SameX h H H'→HoldAt K ad h dx vc vr vk' st H'→b0 K (rLI K) H' vk' (dG 20)→Q vk' H'
theorem HoldAt.newCols {h dx:Addr} {vc vr vk vk':V} {st:HSt} {H H':Hp} (a:HoldAt K ad h dx vc vr vk st H) (s:SameX h H H') (e:H' h=some (.ins (ad.cls "Holder") dx (holdK.zip [vc,vr,vk']))) (hk:rCols K H' vk'):HoldAt K ad h dx vc vr vk' st H' where
 obj:=e
 chain:=by
  have:=a.chain
  revert this
  cases st.chain with
  | none=>exact id
  | some c=>exact fun z=>⟨z.1,z.2.monoX s a.obj (bJ (by decide +kernel))⟩
 run0:=a.run0
 run1:=fun n x e=>by
  obtain⟨c,p,dx,ls,lw,lf,vt,h1,h2,h3⟩:=a.run1 n x e
  exact⟨c,p,dx,ls,lw,lf,vt,h1,h2,h3.monoN (s.n a.obj) ((s _ _ h3.obj (pT a.obj h3.obj rfl).symm).trans h3.obj.symm)⟩
 cols:=hk
 ok:=a.ok
theorem si {f:Addr} {fd:FuncData} (T:Tx P K mg base ad) (F:Fun K "all_columns" "Holder.all_columns" dl f fd) (gd:Fb P w K mg base 42 "least_columns" [] (wg K)):FnOk P w K mg base CX0 43 f fd ["self"] (mn K ad):=by
 refine F.ok jX (fun vs H Q E h=>?_) (fun cdv A outer s H vs Q E hr h=>?_)
 ·obtain⟨_,_,_,_,_,_,rfl,_⟩:=h; rfl
 ·obtain⟨h,dx,vc,vr,vk,st,rfl,a,k⟩:=h
  refine⟨_,(ag (aS (cq (aW (aV (pv 0) rfl) (fun _=>rfl))) (aj (b5 (pv 0) (Ka gd (hr.mono (by decide)) rfl) rfl)) aC)
   (aj (ay (aV (pv 0) rfl)))),?_⟩
  refine⟨_,rfl,h,_,dx,_,vk,rfl,a.obj,T.aH,T.n_Holder_columns,HoldAt.f_cols,?_⟩
  rcases a.cols with⟨q,rfl,hq⟩ | hk
  ·refine⟨false,.inl ⟨[],SqL.of hq,rfl⟩,gy ?_⟩
   refine(show wg K [] H _ E0 from bZ () rfl fun H2 r s2 h2=>?_)
   have h2:b0 K (rLI K) H2 r (dG 20):=h2
   refine⟨_,rfl,h,_,dx,_,rfl,s2 _ _ a.obj,T.aH,T.n_Holder_columns,t7 (by decide),?_⟩
   rw [qV pW (i:=2) rfl rfl]
   have hobj:upd H2 h (.ins (ad.cls "Holder") dx (holdK.zip ([vc,vr,.ref q].set 2 r))) h=some (.ins (ad.cls "Holder") dx (holdK.zip [vc,vr,r])):=af
   have sx:SameX h H (upd H2 h (.ins (ad.cls "Holder") dx (holdK.zip ([vc,vr,.ref q].set 2 r)))):=fun b o e hb=>by rw [aq hb]; exact s2 b o e
   have sn:SameN H2 (upd H2 h (.ins (ad.cls "Holder") dx (holdK.zip ([vc,vr,.ref q].set 2 r)))):=fun b o e i=>by
    rw [aq (fun z=>by rw [z,s2 _ _ a.obj] at e; have e:=Option.some.inj e; rw [←e] at i; cases i)]
    exact e
   have hk:=mG nLI _ _ _ _ sn h2
   exact⟨_,rfl,h,_,dx,_,r,rfl,hobj,T.aH,T.n_Holder_columns,HoldAt.f_cols,k _ r sx (a.newCols sx hobj (.inr hk)) hk⟩
  ·obtain⟨ak,ks,rfl,hak,hpk⟩:=hk
   have hkl:ks.length=20:=by rw [aJ hpk]; unfold dG; rw [List.length_map,List.length_range]
   have hne:(!ks.isEmpty)=true:=by
    cases ks with
    | nil=>cases hkl
    | cons _ _=>rfl
   refine⟨true,.inl ⟨ks,hak,hne.symm⟩,jq ?_⟩
   exact⟨_,rfl,h,_,dx,_,.ref ak,rfl,a.obj,T.aH,T.n_Holder_columns,HoldAt.f_cols,k _ (.ref ak) (fun b o e _=>e) a ⟨ak,ks,rfl,hak,hpk⟩⟩
end
end B
namespace B
open PySem PySem.Spec PyProof.Rows L2
open Vagrag (Game actTold)
section
variable {P:Program} {w:World} {K:PySem.W.Frag} {mg:Str→Option Value} {base:Heap} {ad:Ad}
structure p7 (c:Ch) (row:List Int×Int) (N b:Nat):Prop where
 bd:BM.Bd row N b
 len:row.1.length=c.parts
 pos:0 < N
theorem FF {c:Ch} {row:List Int×Int} {N b M j:Nat} {t:List (List Int)×Int} {vs:List Rat} (ok:pK c) (r:p7 c row N b) (hN:Vagraa.bits N≤2000000) (hb:b≤2000000) (h:BM.TabFor t (a6 c) c.outs c.parts vs M 15060) (hM:Vagraa.bits M≤30001):Ar row t:=by
 have zN:Sz N b:=⟨r.pos,by rw [jb]; omega,by omega⟩
 have zM:Sz M 15060:=⟨h.pos,by rw [jb]; omega,by decide⟩
 have hrow:∀l∈t.1,BM.Bd (l,t.2) M 15060∧l.length=c.parts:=fun l hl=>by
  obtain⟨o,ho,e⟩:=List.getElem_of_mem hl
  have e:t.1[o]?= some l:=by rw [List.getElem?_eq_getElem ho,e]
  exact⟨(h.row o l e).1,h.rlen e⟩
 have p4:=ok.p4
 have p1:=ok.p1
 refine⟨fun x hx=>fo (px r.bd zN hx) (by decide),fo (pA r.bd zN) (by decide),fun l hl x hx=>fo (px (hrow l hl).1 zM hx) (by decide),?_,fun l hl=>by rw [(hrow l hl).2,r.len],by rw [h.len,r.len],by rw [r.len]; omega⟩
 have:=Nat.le_of_dvd zM.pos h.dvd
 have hd:=h.den
 exact fo (m:=20000000) (cC (y:=(M:Int)) (by omega) zM.bits) (by decide)
theorem HC {c:Ch} {row:List Int×Int} {N b M:Nat} {t:List (List Int)×Int} {vs:List Rat} (ok:pK c) (r:p7 c row N b) (h:BM.TabFor t (a6 c) c.outs c.parts vs M 15060):p7 c (turned row t) (N*M) (b+15060+2)∧BM.val (turned row t)=BM.fS (a6 c) c.outs c.parts vs (BM.val row):=
 ⟨⟨BM.AJ h r.bd r.len ok.p4,BM.yw h,Nat.mul_pos r.pos h.pos⟩,BM.yu h r.bd r.len⟩
theorem HR {c:Ch} {row:List Int×Int} {N b M:Nat} {t:List (List Int)×Int} {vs:List Rat} (ok:pK c) (r:p7 c row N b) (h:BM.TabFor t (a6 c) c.outs c.parts vs M 15060):p7 c (pushed row t) (N*M) (b+15060+2)∧BM.val (pushed row t)=BM.fT (a6 c) c.outs vs (BM.val row):=
 ⟨⟨BM.Bn h r.bd r.len ok.p4,BM.y4 h,Nat.mul_pos r.pos h.pos⟩,BM.y3 h r.bd r.len ok.ol⟩
theorem oA {c:Ch} {qs:List Rat} (ok:pK c) (hs:Sms qs) (hl:qs.length=c.parts):p7 c (qd qs) (pd qs) 200∧BM.val (qd qs)=qs∧Vagraa.bits (pd qs)≤1000:=by
 have r:=FY hs
 have hb:=C8 hs
 have p4:=ok.p4
 exact⟨⟨r.bd,by rw [r.len]; exact hl,r.pos⟩,r.val,by omega⟩
noncomputable abbrev cT:Stmt:=bO (top 98) 15
theorem sc_Holder_turn_through:aD ["self","order","weights","tables","row","step"] ["self","order","weights"] (aw cT):=⟨rfl,rfl,rfl,by decide +kernel,rfl,by decide +kernel,by decide +kernel⟩
noncomputable def kt (n:Nat):List V:=(List.range n).map fun k=>V.int ((n:Int) - 1+(k:Nat)*-1)
theorem F9 {n j:Nat} {y:V} (h:(kt n)[j]?= some y):j < n∧y=.int ((n - 1 - j:Nat):Int):=by
 unfold kt at h
 rw [List.getElem?_map] at h
 cases e:(List.range n)[j]? with
 | none=>rw [e] at h; cases h
 | some m=>
  obtain⟨b1,b2⟩:=List.getElem?_eq_some_iff.mp e
  rw [List.length_range] at b1
  rw [List.getElem_range] at b2
  subst b2
  rw [e] at h
  have h:V.int ((n:Int) - 1+(j:Nat)*-1)=y:=Option.some.inj h
  refine⟨b1,?_⟩
  rw [←h]
  exact congrArg V.int (by omega)
theorem Bq (n:Nat):nD (BM.fK n 0)=kt n:=by
 unfold nD BM.fK kt
 rw [Nat.sub_zero,List.map_map]
 refine List.map_congr_left fun j hj=>?_
 have:=List.mem_range.mp hj
 show V.int ((n - 1 - j:Nat):Int)=V.int ((n:Int) - 1+(j:Nat)*-1)
 exact congrArg V.int (by omega)
noncomputable def oq (K:PySem.W.Frag) (ad:Ad):Sp:=fun vs H Q _=>∃(h dx:Addr) (vc vr vk v u:V) (st:HSt) (c:Ch) (n:Nat) (x:List Rat) (l:List (List Rat)) (wts:List Rat),vs=[.ref h,v,u]∧HoldAt K ad h dx vc vr vk st H∧st.chain=some c∧st.run=some (n,x)∧BM.bn (a6 c) c.outs n 0 x=.ok l∧
 (∃ao,v=.ref ao∧SqL K H ao (kt n))∧b0 K (rFr K) H u wts∧Sms wts∧wts.length=c.parts∧∀H' r,SameN H H'→HoldAt K ad h dx vc vr vk st H'→rLT H' r (cD (BM.dh (BM.dc (a6 c) c.outs c.parts l n wts)))→Q r H'
theorem qg {f:Addr} {fd:FuncData} (T:Tx P K mg base ad) (F:Fun K "turn_through" "Holder.turn_through" cT f fd) (ec:Fb P w K mg base 46 "tables_of" ["chain","run"] (AU K (ad.cls "Chain") (ad.cls "Run"))) (eP:Fb P w K mg base 40 "row_of" ["fractions"] (jf K)) (BQ:Fb P w K mg base 41 "turn" ["weights","table"] (AT K)) (bx:Fb P w K mg base 42 "told_fractions" ["row"] (mj K)):
  FnOk P w K mg base CX0 47 f fd ["self","order","weights"] (oq K ad):=by
 refine F.ok sc_Holder_turn_through (fun vs H Q E h=>?_) (fun cdv A outer s H vs Q E hr h=>?_)
 ·obtain⟨_,_,_,_,_,_,_,_,_,_,_,_,_,rfl,_⟩:=h; rfl
 ·obtain⟨h,dx,vc,vr,vk,v,u,st,c,n,x,l,wts,rfl,a,hc,hrun,ht,⟨ao,rfl,hao⟩,hu,hsm,hwl,k⟩:=h
  have ok:=a.ok.chain c hc
  obtain⟨c',hc',hxl,hxs,hn1,hn40⟩:=a.ok.run n x hrun
  obtain⟨c'',p,dxr,ls,lw,lf,vt,hc'',rfl,R⟩:=a.run1 n x hrun
  rw [hc] at hc' hc''
  have hc':=Option.some.inj hc'
  have hc'':=Option.some.inj hc''
  subst hc' hc''
  refine⟨_,(ag (aF (i:=3) sc_Holder_turn_through.nd rfl (Or.inl rfl) (aP ec (hr.mono (by decide)) rfl (aa (aV (pv 0) rfl) (aa (aV (pv 0) rfl) ah))))
   (ag (aF (i:=4) sc_Holder_turn_through.nd rfl (Or.inl rfl) (aP eP (hr.mono (by decide)) rfl (aa (pv 2) ah)))
   (ag (cV PassesOwn.never rfl (bQ (pv 1)) (a7 (i:=5) sc_Holder_turn_through.nd rfl (Or.inl rfl) (hf:=Or.inl rfl))
    (aj (aF (i:=4) sc_Holder_turn_through.nd rfl (Or.inl rfl) (aP BQ (hr.mono (by decide)) rfl (aa (pv 4) (aa (aA aQ (pv 3) (pv 5) (fun _ _=>rfl)) ah))))))
   (aj (ay (aP bx (hr.mono (by decide)) rfl (aa (pv 4) ah))))))),?_⟩
  refine⟨_,rfl,h,_,dx,_,vc,rfl,a.obj,T.aH,T.n_Holder_chain,HoldAt.f_chain,_,rfl,h,_,dx,_,.ref p,rfl,a.obj,T.aH,T.n_Holder_run,HoldAt.f_run,?_⟩
  refine⟨c,n,x,l,vc,p,dxr,ls,lw,lf,vt,rfl,a.ch hc,ok,R,ht,hn1,by omega,fun H1 vt' ts sx R1 hts htok=>?_⟩
  have a1:=a.tabs hc hrun rfl R sx R1
  have sn:=sx.n R.obj
  have hu1:=mG nFr _ _ _ _ sn hu
  have hao1:=sn.seq hao
  refine⟨_,rfl,?_⟩
  refine(show jf K [u] H1 _ E0 from bZ wts ⟨_,rfl,hu1,hsm,by have:=ok.p4; omega⟩ fun H2 r2 s2 h2=>?_)
  have h2:dg K H2 r2 (qd wts):=h2
  obtain⟨r0,rv0,rb0⟩:=oA ok hsm hwl
  obtain⟨htl,_⟩:=BM.dM ht
  obtain⟨at_,tus,rfl,hat,hpt⟩:=hts
  refine⟨_,rfl,ao,rfl,⟨_,s2.seq hao1⟩,?_⟩
  refine eZ (K:=K) (a:=ao) (xs:=kt n) (fun j σ H3=>∃(vrow:V) (v5:Option V) (row:List Int×Int) (N b:Nat),σ=[some (.ref h),some (.ref ao),some u,some (.ref at_),some vrow,v5]∧Same H1 H3∧dg K H3 vrow row∧p7 c row N b∧Vagraa.bits N≤1000+30001*j∧b≤200+15062*j∧j≤n∧BM.dc (a6 c) c.outs c.parts l (n - j) (BM.val row)=BM.dc (a6 c) c.outs c.parts l n wts)
   ⟨r2,none,qd wts,pd wts,200,rfl,s2,h2,r0,by omega,by omega,Nat.zero_le _,by rw [rv0,Nat.sub_zero]⟩ (fun j σ H3 _ ⟨_,_,_,_,_,_,hs,_⟩=>hs.seq hao1) ?_ ?_
  ·rintro j y σ H3 hy ⟨vrow,v5,row,N,b,rfl,hs,hrow,hto,hNb,hbb,hjn,hback⟩
   obtain⟨hj,rfl⟩:=F9 hy
   obtain⟨t,het⟩:∃t,ts[n - 1 - j]?= some t:=⟨_,List.getElem?_eq_getElem (by rw [htok.1,htl]; omega)⟩
   obtain⟨vs,hevs⟩:∃vs,l[n - 1 - j]?= some vs:=⟨_,List.getElem?_eq_getElem (by rw [htl]; omega)⟩
   obtain⟨M,htf,hMb⟩:=htok.2 _ t vs het hevs
   obtain⟨tv,htv,htr⟩:=bt hpt het
   have htr3:=EE _ _ _ _ hs htr
   refine⟨_,rfl,_,rfl,_,rfl,at_,_,_,_,rfl,rfl,hs.seq hat,bW rfl htv,?_⟩
   have tok:=FF (j:=j) ok hto (by omega) (by omega) htf hMb
   refine(show AT K [vrow,tv] H3 _ E0 from bZ (row,t) ⟨_,_,rfl,hrow,htr3,tok⟩ fun H4 r4 s4 h4=>?_)
   have h4:dg K H4 r4 (turned row t):=h4
   obtain⟨hto4,hval4⟩:=HC ok hto htf
   have hbm:=BM.e8 N M
   refine⟨_,_,turned row t,N*M,b+15060+2,rfl,hs.trans s4,h4,hto4,by omega,by omega,by omega,?_⟩
   rw [hval4,←hback]
   conv=>rhs; rw [show n - j=(n - (j+1))+1 by omega]
   show _=BM.dc (a6 c) c.outs c.parts l (n - (j+1)) (BM.fS (a6 c) c.outs c.parts (l.getD (n - (j+1)) []) (BM.val row))
   have:l.getD (n - (j+1)) []=vs:=by rw [List.getD_eq_getElem?_getD,show n - (j+1)=n - 1 - j by omega,hevs]; rfl
   rw [this]
  ·rintro σ H3 ⟨vrow,v5,row,N,b,rfl,hs,hrow,hto,hNb,hbb,hjn,hback⟩
   have hol:(kt n).length=n:=by unfold kt; rw [List.length_map,List.length_range]
   rw [hol,Nat.sub_self] at hback
   have hback:BM.val row=BM.dc (a6 c) c.outs c.parts l n wts:=hback
   refine⟨_,rfl,?_⟩
   refine(show mj K [vrow] H3 _ E0 from bZ row ⟨_,rfl,hrow,hto.bd.pos,by rw [hto.len]; have:=ok.p4; omega⟩ fun H4 r4 s4 h4=>?_)
   have h4:rLT H4 r4 (cD (BM.dh (BM.val row))):=h4
   rw [hback] at h4
   exact k _ _ (sn.trans (hs.trans s4).n) (a1.mono (hs.trans s4)) h4
noncomputable abbrev cU:Stmt:=bO (top 98) 14
theorem sc_Holder_turn_as_told:aD ["self","acts","slots","weights","desk"] ["self","acts","slots","weights"] (aw cU):=⟨rfl,rfl,rfl,by decide +kernel,rfl,by decide +kernel,by decide +kernel⟩
theorem Ab {n k:Nat} (h:1≤k):(Vagrag.begin n k).slots.map fX=.int 0::List.replicate (k - 1) .non:=by
 obtain⟨m,rfl⟩:∃m,k=m+1:=⟨k - 1,by omega⟩
 show((List.range (m+1)).map fun j=>if j=0 then some 0 else none).map fX=_
 rw [List.range_succ_eq_map,List.map_cons,List.map_cons,List.map_map,List.map_map,Nat.add_sub_cancel]
 refine congr (congrArg _ rfl) ?_
 refine List.ext_getElem? fun j=>?_
 rw [List.getElem?_map,List.getElem?_replicate]
 by_cases hj:j < m
 ·rw [List.getElem?_range hj,if_pos hj]; rfl
 ·rw [List.getElem?_eq_none (by rw [List.length_range]; omega),if_neg hj]; rfl
theorem vd {n:Nat} {g':Game}:∀{l:List Vagrag.Act} {i:Nat} {g:Game},Vagrag.playFrom n i g l=.ok g'→g'.left=0
 | [],i,g,h=>by
  unfold Vagrag.playFrom at h
  split at h
  ·rename_i h0
   have h:g=g':=by injection h
   rw [←h]; exact h0
  ·cases h
 | a::r,i,g,h=>by
  unfold Vagrag.playFrom at h
  cases e:Vagrag.act n g a with
  | error z=>rw [e] at h; cases h
  | ok g1=>rw [e] at h; exact vd h
theorem tw {C p dx ls lt:Addr} {H:Hp} {n k:Nat} (hk:1≤k) (h1:H p=some (.ins C dx (deskK.zip [.int (n:Int),.ref ls,.non,.int (n:Int),.int 0,.ref lt]))) (h2:H ls=some (.lst (.int 0::List.replicate (k - 1) .non))) (h3:H lt=some (.lst [])) (hne:ls≠lt):DeskAt C p dx ls lt n (Vagrag.begin n k) H:=
 ⟨h1,by rw [Ab hk]; exact h2,by show _=some (HO.lst (nD (BM.fK n n))); rw [BM.zQ]; exact h3,hne⟩
noncomputable def JV (K:PySem.W.Frag) (ad:Ad):Sp:=fun vs H Q _=>∃(h dx:Addr) (vc vr vk v u:V) (st:HSt) (c:Ch) (n m:Nat) (x:List Rat) (l:List (List Rat)) (wts:List Rat) (acts:List Vagrag.Act),vs=[.ref h,v,.int (m:Int),u]∧HoldAt K ad h dx vc vr vk st H∧st.chain=some c∧st.run=some (n,x)∧BM.bn (a6 c) c.outs n 0 x=.ok l∧
 pO K H v acts∧acts.length≤100000∧1≤m∧m≤10∧b0 K (rFr K) H u wts∧Sms wts∧wts.length=c.parts∧∀H' r,SameN H H'→HoldAt K ad h dx vc vr vk st H'→rLT H' r (match Vagrag.play n m acts with | .error _=>[-8] | .ok _=>cD (BM.dh (BM.dc (a6 c) c.outs c.parts l n wts)))→Q r H'
theorem qh {f:Addr} {fd:FuncData} (T:Tx P K mg base ad) (F:Fun K "turn_as_told" "Holder.turn_as_told" cU f fd) (oY:Cb P w K mg base (ad.cls "Desk") 40 "Desk" ["self","steps","slots"] (ml (ad.cls "Desk"))) (ef:Fb P w K mg base 41 "play_acts" ["desk","acts"] (we K (ad.cls "Desk"))) (bB:Mb P w K mg base (ad.cls "Holder") 47 "turn_through" ["self","order","weights"] (oq K ad)):
  FnOk P w K mg base CX0 48 f fd ["self","acts","slots","weights"] (JV K ad):=by
 refine F.ok sc_Holder_turn_as_told (fun vs H Q E h=>?_) (fun cdv A outer s H vs Q E hr h=>?_)
 ·obtain⟨_,_,_,_,_,_,_,_,_,_,_,_,_,_,_,rfl,_⟩:=h; rfl
 ·obtain⟨h,dx,vc,vr,vk,v,u,st,c,n,m,x,l,wts,acts,rfl,a,hc,hrun,ht,hacts,hal,hm1,hm10,hu,hsm,hwl,k⟩:=h
  obtain⟨c',hc',hxl,hxs,hn1,hn40⟩:=a.ok.run n x hrun
  obtain⟨c'',p,dxr,ls,lw,lf,vt,hc'',rfl,R⟩:=a.run1 n x hrun
  rw [hc] at hc' hc''
  have hc':=Option.some.inj hc'
  have hc'':=Option.some.inj hc''
  subst hc' hc''
  refine⟨_,(ag (aF (i:=4) sc_Holder_turn_as_told.nd rfl (Or.inl rfl) (C5 oY (hr.mono (by decide)) rfl (aa (aV (aV (pv 0) rfl) rfl) (aa (pv 2) ah))))
   (ag (aS (aW (aP ef (hr.mono (by decide)) rfl (aa (pv 4) (aa (pv 1) ah))) (fun _=>rfl)) (aj (ay (aN (aa (aO rfl T.gz) ah)))) aC)
   (aj (ay (dO bB (pv 0) (hr.mono (by decide)) (aa (aV (pv 4) rfl) (aa (pv 3) ah))))))),?_⟩
  refine⟨_,rfl,h,_,dx,_,.ref p,rfl,a.obj,T.aH,T.n_Holder_run,HoldAt.f_run,p,_,dxr,_,.int (n:Int),rfl,R.obj,T.ci,T.n_Run_steps,cF kj (i:=0) rfl rfl,_,rfl,fun pd ddx npd nddx nxp=>?_⟩
  have npd:H pd=none:=npd
  have nddx:H ddx=none:=nddx
  refine⟨pd,ddx,_,m,rfl,hm1,by omega,af,fun H1 lsl ltl e1 e2 e3 n1 n2 n12 sx=>⟨rfl,?_⟩⟩
  have fr:∀{b:Addr},upd (upd H ddx (.own pd)) pd (.ins (ad.cls "Desk") ddx []) b=none→H b=none:=fun {b} z=>by
   have n1:b≠pd:=fun q=>by rw [q,af] at z; cases z
   rw [aq n1] at z
   have n2:b≠ddx:=fun q=>by rw [q,af] at z; cases z
   rw [aq n2] at z
   exact z
  have al:=fr n1
  have at_:=fr n2
  have s0:Same H H1:=fun b o e=>sx b o (by rw [aq (az e npd),aq (az e nddx)]; exact e) (az e npd)
  have d:=tw hm1 e1 e2 e3 n12
  refine⟨_,rfl,_,rfl,?_⟩
  refine⟨pd,ddx,lsl,ltl,v,n,m,_,acts,rfl,d,BM.k3 n m,by omega,gU mTI _ _ _ _ (s0.hide2 al at_) hacts,hal,fun H2 r s3 hres=>?_⟩
  have s2:Same H H2:=fun b o e=>s3 b o (s0 b o e) (az e npd) (az e al) (az e at_)
  have hres:(match Vagrag.play n m acts with | .ok g'=>DeskAt (ad.cls "Desk") pd ddx lsl ltl n g' H2∧∃l,r=.ref l∧H2 l=some (.lst []) | .error (i,e)=>∃l,r=.ref l∧H2 l=some (.lst [.int (i:Nat),.int (e:Nat)])):=hres
  cases hplay:Vagrag.play n m acts with
  | error ie=>
   rw [hplay] at hres k
   obtain⟨lr,rfl,hlr⟩:=hres
   refine⟨true,.inl ⟨_,SqL.of hlr,rfl⟩,gy ⟨(by show 1≤sizeLine; decide),fun lz hlz=>k _ _ (s2.trans (Same.new hlz)).n (a.mono (s2.trans (Same.new hlz))) ⟨lz,rfl,af⟩⟩⟩
  | ok g'=>
   rw [hplay] at hres k
   obtain⟨d2,lr,rfl,hlr⟩:=hres
   have hleft:=vd hplay
   have htur:=d2.turned
   rw [hleft,Bq] at htur
   refine⟨false,.inl ⟨_,SqL.of hlr,rfl⟩,jq ?_⟩
   refine⟨_,rfl,h,dx,_,rfl,s2 _ _ a.obj,bJ (by decide +kernel),_,rfl,pd,_,ddx,_,.ref ltl,rfl,d2.obj,T.bj,T.n_Desk_turned,cF df (i:=5) rfl rfl,_,rfl,?_⟩
   exact⟨h,dx,vc,.ref p,vk,.ref ltl,u,st,c,n,x,l,wts,rfl,a.mono s2,hc,hrun,ht,⟨ltl,rfl,SqL.of htur⟩,gU mFr _ _ _ _ s2 hu,hsm,hwl,fun H3 r3 sn3 a3 h3=>k _ _ (s2.n.trans sn3) a3 h3⟩
end
end B
namespace B
open PySem PySem.Spec PyProof.Rows L2
open Vagrag (Game actTold)
theorem p5 (s:Vagrag.State) (n c:Int):s.asked (.least n c)=if 1≤n∧n≤60 then(if 1≤c∧c≤20 then .ok [(Vagrag.least n.toNat c.toNat:Int)] else .error (-1)) else .error (-1):=by
 show(Vagrag.ranged n 1 60 >>= fun n=>Vagrag.ranged c 1 20 >>= fun c=>Except.ok [(Vagrag.least n c:Int)])=_
 by_cases h1:1≤n∧n≤60
 ·rw [if_pos h1,bA h1]
  show(Vagrag.ranged c 1 20 >>= fun c=>Except.ok [(Vagrag.least n.toNat c:Int)])=_
  by_cases h2:1≤c∧c≤20
  ·rw [if_pos h2,bA h2]; rfl
  ·rw [if_neg h2,bp h2]; rfl
 ·rw [if_neg h1,bp h1]; rfl
theorem p3 (s:Vagrag.State) (n c:Int):s.asked (.split n c)=if 2≤n∧n≤60 then(if 2≤c∧c≤20 then .ok [(Vagrag.split n.toNat c.toNat:Int)] else .error (-1)) else .error (-1):=by
 show(Vagrag.ranged n 2 60 >>= fun n=>Vagrag.ranged c 2 20 >>= fun c=>Except.ok [(Vagrag.split n c:Int)])=_
 by_cases h1:2≤n∧n≤60
 ·rw [if_pos h1,bA h1]
  show(Vagrag.ranged c 2 20 >>= fun c=>Except.ok [(Vagrag.split n.toNat c:Int)])=_
  by_cases h2:2≤c∧c≤20
  ·rw [if_pos h2,bA h2]; rfl
  ·rw [if_neg h2,bp h2]; rfl
 ·rw [if_neg h1,bp h1]; rfl
theorem tM (s:Vagrag.State) (c t:Int):s.asked (.most c t)=if 1≤c∧c≤20 then(if 0≤t∧t≤1000000 then .ok [((((Vagrag.row Vagrag.FAR c.toNat).drop 1).takeWhile fun x=>decide (x≤t.toNat)).length:Int)] else .error (-1)) else .error (-1):=by
 show(Vagrag.ranged c 1 20 >>= fun c=>Vagrag.ranged t 0 1000000 >>= fun t=>Except.ok [((((Vagrag.row Vagrag.FAR c).drop 1).takeWhile fun x=>decide (x≤t)).length:Int)])=_
 by_cases h1:1≤c∧c≤20
 ·rw [if_pos h1,bA h1]
  show(Vagrag.ranged t 0 1000000 >>= fun t=>Except.ok [((((Vagrag.row Vagrag.FAR c.toNat).drop 1).takeWhile fun x=>decide (x≤t)).length:Int)])=_
  by_cases h2:0≤t∧t≤1000000
  ·rw [if_pos h2,bA h2]; rfl
  ·rw [if_neg h2,bp h2]; rfl
 ·rw [if_neg h1,bp h1]; rfl
theorem tL (s:Vagrag.State) (n t:Int):s.asked (.room n t)=if 1≤n∧n≤60 then(if 0≤t∧t≤1000000 then .ok [((((List.range Vagrag.SLOTS).find? fun i=>decide (Vagrag.least n.toNat (i+1)≤t.toNat)).map fun i=>i+1).getD 0:Nat)] else .error (-1)) else .error (-1):=by
 show(Vagrag.ranged n 1 60 >>= fun n=>Vagrag.ranged t 0 1000000 >>= fun t=>(Except.ok [(((((List.range Vagrag.SLOTS).find? fun i=>decide (Vagrag.least n (i+1)≤t)).map fun i=>i+1).getD 0:Nat):Int)]:Except Int (List Int)))=_
 by_cases h1:1≤n∧n≤60
 ·rw [if_pos h1,bA h1]
  show(Vagrag.ranged t 0 1000000 >>= fun t=>(Except.ok [(((((List.range Vagrag.SLOTS).find? fun i=>decide (Vagrag.least n.toNat (i+1)≤t)).map fun i=>i+1).getD 0:Nat):Int)]:Except Int (List Int)))=_
  by_cases h2:0≤t∧t≤1000000
  ·rw [if_pos h2,bA h2]; rfl
  ·rw [if_neg h2,bp h2]; rfl
 ·rw [if_neg h1,bp h1]; rfl
theorem k5 (s:Vagrag.State) (n c:Int):s.asked (.schedule n c)=if 1≤n∧n≤50 then(if 1≤c∧c≤10 then .ok ((((Vagrag.schedule n.toNat c.toNat).flatMap actTold).length:Int)::(Vagrag.schedule n.toNat c.toNat).flatMap actTold) else .error (-1)) else .error (-1):=by
 show(Vagrag.ranged n 1 50 >>= fun n=>Vagrag.ranged c 1 10 >>= fun c=>Except.ok ((((Vagrag.schedule n c).flatMap actTold).length:Int)::(Vagrag.schedule n c).flatMap actTold))=_
 by_cases h1:1≤n∧n≤50
 ·rw [if_pos h1,bA h1]
  show(Vagrag.ranged c 1 10 >>= fun c=>Except.ok ((((Vagrag.schedule n.toNat c).flatMap actTold).length:Int)::(Vagrag.schedule n.toNat c).flatMap actTold))=_
  by_cases h2:1≤c∧c≤10
  ·rw [if_pos h2,bA h2]; rfl
  ·rw [if_neg h2,bp h2]; rfl
 ·rw [if_neg h1,bp h1]; rfl
theorem Ah (l:List Int):Vagrag.acts l=if qB (Vagrag.actsOf l)=0 then .ok ((Vagrag.actsOf l).getD []) else .error (qB (Vagrag.actsOf l)):=by
 rw [Je]
 unfold qB
 cases Vagrag.actsOf l with
 | none=>rfl
 | some a=>
  show(if 2000 < a.length then Except.error (-7) else Except.ok a)=if (if 2000 < a.length then(-7:Int) else 0)=0 then Except.ok a else Except.error (if 2000 < a.length then(-7:Int) else 0)
  by_cases h:2000 < a.length
  ·rw [if_pos h,if_pos h,if_neg (by decide)]
  ·rw [if_neg h,if_neg h,if_pos rfl]
theorem p6 (s:Vagrag.State) (n c:Int) (l:List Int):s.asked (.check n c l)=if 1≤n∧n≤50 then(if 1≤c∧c≤10 then(if qB (Vagrag.actsOf l)=0 then .ok (Vagrag.checkTold n.toNat c.toNat ((Vagrag.actsOf l).getD [])) else .error (qB (Vagrag.actsOf l))) else .error (-1)) else .error (-1):=by
 show(Vagrag.ranged n 1 50 >>= fun n=>Vagrag.ranged c 1 10 >>= fun c=>Vagrag.acts l >>= fun a=>Except.ok (Vagrag.checkTold n c a))=_
 by_cases h1:1≤n∧n≤50
 ·rw [if_pos h1,bA h1]
  show(Vagrag.ranged c 1 10 >>= fun c=>Vagrag.acts l >>= fun a=>Except.ok (Vagrag.checkTold n.toNat c a))=_
  by_cases h2:1≤c∧c≤10
  ·rw [if_pos h2,bA h2]
   show(Vagrag.acts l >>= fun a=>Except.ok (Vagrag.checkTold n.toNat c.toNat a))=_
   rw [Ah]
   by_cases h3:qB (Vagrag.actsOf l)=0
   ·rw [if_pos h3,if_pos h3]; rfl
   ·rw [if_neg h3,if_neg h3]; rfl
  ·rw [if_neg h2,bp h2]; rfl
 ·rw [if_neg h1,bp h1]; rfl
section
variable {P:Program} {w:World} {K:PySem.W.Frag} {mg:Str→Option Value} {base:Heap} {ad:Ad}
noncomputable def cG (K:PySem.W.Frag) (ad:Ad) (ar:List V→Hp→Vagrag.Call→Prop):Sp:=fun vs H Q _=>∃(h dx:Addr) (vc vr vk:V) (st:HSt) (as:List V) (call:Vagrag.Call),vs=.ref h::as∧HoldAt K ad h dx vc vr vk st H∧ar as H call∧
 ∀H' r dx' vc' vr' vk' st',SameN H H'→HoldAt K ad h dx' vc' vr' vk' st' H'→ax st'=(Vagrag.step (ax st) call).1→rLT H' r (ans (ax st) call)→Q r H'
theorem e7 {h:Addr} {st:HSt} {call:Vagrag.Call} {H:Hp} {Q:VK} (hc:Dj call=true) (k:∀H' r dx' vc' vr' vk' st',SameN H H'→HoldAt K ad h dx' vc' vr' vk' st' H'→ax st'=(Vagrag.step (ax st) call).1→rLT H' r (ans (ax st) call)→Q r H'):
  ∀⦃H' r dx' vc' vr' vk'⦄,SameN H H'→HoldAt K ad h dx' vc' vr' vk' st H'→rLT H' r (cD ((ax st).asked call))→Q r H':=fun H' r dx' vc' vr' vk' s a hr=>
 k H' r dx' vc' vr' vk' st s a (rj hc).1.symm (by rw [(rj hc).2]; exact hr)
noncomputable def xG:List V→Hp→Vagrag.Call→Prop:=fun as _ call=>∃n c:Int,as=[.int n,.int c]∧call=.least n c
noncomputable def xE:List V→Hp→Vagrag.Call→Prop:=fun as _ call=>∃n c:Int,as=[.int n,.int c]∧call=.split n c
noncomputable def Co:List V→Hp→Vagrag.Call→Prop:=fun as _ call=>∃n c:Int,as=[.int n,.int c]∧call=.most n c
noncomputable def Cm:List V→Hp→Vagrag.Call→Prop:=fun as _ call=>∃n c:Int,as=[.int n,.int c]∧call=.room n c
noncomputable def xF:List V→Hp→Vagrag.Call→Prop:=fun as _ call=>∃n c:Int,as=[.int n,.int c]∧call=.schedule n c
noncomputable def xH (K:PySem.W.Frag):List V→Hp→Vagrag.Call→Prop:=fun as H call=>∃(n c:Int) (v:V) (ns:List Int),as=[.int n,.int c,v]∧rLI K H v ns∧ns.length≤100000∧call=.check n c ns
theorem cW {z:Int} {lo hi:Int} (h:lo≤z∧z≤hi) (h0:0≤lo):∃m:Nat,z=(m:Int)∧z.toNat=m∧lo≤(m:Int)∧(m:Int)≤hi:=⟨z.toNat,by omega,rfl,by omega,by omega⟩
noncomputable abbrev gO:Stmt:=bO (top 98) 6
theorem qc:aD ["self","steps","slots"] ["self","steps","slots"] (aw gO):=⟨rfl,rfl,rfl,by decide +kernel,rfl,by decide +kernel,by decide +kernel⟩
theorem Ge {f:Addr} {fd:FuncData} (T:Tx P K mg base ad) (F:Fun K "least" "Holder.least" gO f fd) (aX:Fb P w K mg base 40 "within" ["number","low","high"] cO) (aI:Mb P w K mg base (ad.cls "Holder") 43 "all_columns" ["self"] (mn K ad)):
  FnOk P w K mg base CX0 44 f fd ["self","steps","slots"] (cG K ad xG):=by
 refine F.ok qc (fun vs H Q E h=>?_) (fun cdv A outer s H vs Q E hr h=>?_)
 ·obtain⟨_,_,_,_,_,_,_,_,rfl,_,⟨_,_,rfl,_⟩,_⟩:=h; rfl
 ·obtain⟨h,dx,vc,vr,vk,st,as,call,rfl,a,⟨n,c,rfl,rfl⟩,k⟩:=h
  have fin:=e7 (K:=K) (ad:=ad) (Q:=Q) rfl k
  rw [p5] at fin
  have out1:(cD (if 1≤n∧n≤60 then(if 1≤c∧c≤20 then .ok [(Vagrag.least n.toNat c.toNat:Int)] else .error (-1)) else .error (-1))=[-1])→∀l,H l=none→Q (.ref l) (upd H l (.lst [.int (-1)])):=fun e l hl=>fin (Same.new hl).n (a.mono (Same.new hl)) (by rw [e]; exact⟨l,rfl,af⟩)
  refine⟨_,(ag (aS (PW.pt (ko (cq (aW (aP aX (hr.mono (by decide)) rfl (aa (pv 1) (aa am (aa (aO rfl T.b7) ah)))) (fun _=>rfl))) (gR (cq (aW (aP aX (hr.mono (by decide)) rfl (aa (pv 2) (aa am (aa (aO rfl T.cM) ah)))) (fun _=>rfl)))))) (aj (ay (aN (aa (aO rfl T.bf) ah)))) aC)
   (aj (ay (aN (aa (aA aQ (aA aQ (gb aI (pv 0) (hr.mono (by decide))) (aR fE (pv 2) am) (fun _ _=>rfl)) (pv 1) (fun _ _=>rfl)) ah))))),?_⟩
  refine⟨_,rfl,_,_,_,rfl,_,rfl,dQ (fun h1=>gy ⟨(by show 1≤sizeLine; decide),out1 (by rw [if_neg h1]; rfl)⟩) fun h1=>?_⟩
  refine⟨_,rfl,_,_,_,rfl,_,rfl,dQ (fun h2=>⟨(by show 1≤sizeLine; decide),out1 (by rw [if_pos h1,if_neg h2]; rfl)⟩) fun h2=>?_⟩
  rw [if_pos h1,if_pos h2] at fin
  obtain⟨nn,rfl,e1,b1,b2⟩:=cW h1 (by decide)
  obtain⟨cc,rfl,e2,b3,b4⟩:=cW h2 (by decide)
  rw [e1,e2] at fin
  refine⟨_,rfl,h,dx,_,rfl,a.obj,bJ (by decide +kernel),h,dx,vc,vr,vk,st,rfl,a,fun H1 vk' sx a1 hk=>?_⟩
  obtain⟨ak,ks,rfl,hak,hpk⟩:=hk
  obtain⟨v1,hv1,⟨ac,rfl,hac⟩⟩:=bt hpk (tH (c:=cc - 1) (by omega))
  rw [show cc - 1+1=cc by omega] at hac
  have e1:(Vagrag.row 60 cc)[nn]?= some ((Vagrag.row 60 cc).getD nn 0):=kK (by rw [BM.jj]; omega)
  refine⟨_,rfl,_,_,rfl,rfl,ak,_,_,_,rfl,rfl,hak,bW (j:=cc - 1) (by show(cc:Int) - 1=_; omega) hv1,_,rfl,ac,_,_,_,rfl,rfl,hac,bW (j:=nn) rfl (lG e1),(by show 1≤sizeLine; decide),fun l hl=>?_⟩
  refine fin ((sx.n a.obj).trans (Same.new hl).n) (a1.mono (Same.new hl)) ⟨l,rfl,?_⟩
  rw [af,BM.vx (N:=60) (by omega)]
  rfl
noncomputable abbrev fA:Stmt:=bO (top 98) 7
theorem nk:aD ["self","steps","slots"] ["self","steps","slots"] (aw fA):=⟨rfl,rfl,rfl,by decide +kernel,rfl,by decide +kernel,by decide +kernel⟩
theorem Bs {f:Addr} {fd:FuncData} (T:Tx P K mg base ad) (F:Fun K "parting" "Holder.parting" fA f fd) (aX:Fb P w K mg base 40 "within" ["number","low","high"] cO) (aI:Mb P w K mg base (ad.cls "Holder") 43 "all_columns" ["self"] (mn K ad)) (ek:Fb P w K mg base 41 "parted_at" ["n","c","columns"] (ka K)):
  FnOk P w K mg base CX0 44 f fd ["self","steps","slots"] (cG K ad xE):=by
 refine F.ok nk (fun vs H Q E h=>?_) (fun cdv A outer s H vs Q E hr h=>?_)
 ·obtain⟨_,_,_,_,_,_,_,_,rfl,_,⟨_,_,rfl,_⟩,_⟩:=h; rfl
 ·obtain⟨h,dx,vc,vr,vk,st,as,call,rfl,a,⟨n,c,rfl,rfl⟩,k⟩:=h
  have fin:=e7 (K:=K) (ad:=ad) (Q:=Q) rfl k
  rw [p3] at fin
  have out1:(cD (if 2≤n∧n≤60 then(if 2≤c∧c≤20 then .ok [(Vagrag.split n.toNat c.toNat:Int)] else .error (-1)) else .error (-1))=[-1])→∀l,H l=none→Q (.ref l) (upd H l (.lst [.int (-1)])):=fun e l hl=>fin (Same.new hl).n (a.mono (Same.new hl)) (by rw [e]; exact⟨l,rfl,af⟩)
  refine⟨_,(ag (aS (PW.pt (ko (cq (aW (aP aX (hr.mono (by decide)) rfl (aa (pv 1) (aa am (aa (aO rfl T.b7) ah)))) (fun _=>rfl))) (gR (cq (aW (aP aX (hr.mono (by decide)) rfl (aa (pv 2) (aa am (aa (aO rfl T.cM) ah)))) (fun _=>rfl)))))) (aj (ay (aN (aa (aO rfl T.bf) ah)))) aC)
   (aj (ay (aN (aa (aP ek (hr.mono (by decide)) rfl (aa (pv 1) (aa (pv 2) (aa (gb aI (pv 0) (hr.mono (by decide))) ah)))) ah))))),?_⟩
  refine⟨_,rfl,_,_,_,rfl,_,rfl,dQ (fun h1=>gy ⟨(by show 1≤sizeLine; decide),out1 (by rw [if_neg h1]; rfl)⟩) fun h1=>?_⟩
  refine⟨_,rfl,_,_,_,rfl,_,rfl,dQ (fun h2=>⟨(by show 1≤sizeLine; decide),out1 (by rw [if_pos h1,if_neg h2]; rfl)⟩) fun h2=>?_⟩
  rw [if_pos h1,if_pos h2] at fin
  obtain⟨nn,rfl,e1,b1,b2⟩:=cW h1 (by decide)
  obtain⟨cc,rfl,e2,b3,b4⟩:=cW h2 (by decide)
  rw [e1,e2] at fin
  refine⟨_,rfl,_,rfl,_,rfl,h,dx,_,rfl,a.obj,bJ (by decide +kernel),h,dx,vc,vr,vk,st,rfl,a,fun H1 vk' sx a1 hk=>?_⟩
  refine(show ka K [.int (nn:Int),.int (cc:Int),vk'] H1 _ E0 from bZ (nn,cc) ⟨_,rfl,hk,(by show 2≤nn; omega),(by show nn≤60; omega),(by show 2≤cc; omega),(by show cc≤20; omega)⟩ fun H2 r s2 h2=>?_)
  have h2:r=.int (Vagrag.split nn cc:Nat):=h2
  subst h2
  refine⟨(by show 1≤sizeLine; decide),fun l hl=>?_⟩
  exact fin ((sx.n a.obj).trans (s2.trans (Same.new hl)).n) (a1.mono (s2.trans (Same.new hl))) ⟨l,rfl,af⟩
noncomputable abbrev iB:Stmt:=bO (top 98) 8
theorem rJ:aD ["self","slots","limit"] ["self","slots","limit"] (aw iB):=⟨rfl,rfl,rfl,by decide +kernel,rfl,by decide +kernel,by decide +kernel⟩
theorem Ie {f:Addr} {fd:FuncData} (T:Tx P K mg base ad) (F:Fun K "most" "Holder.most" iB f fd) (aX:Fb P w K mg base 40 "within" ["number","low","high"] cO) (aI:Mb P w K mg base (ad.cls "Holder") 43 "all_columns" ["self"] (mn K ad)) (jv:Fb P w K mg base 40 "most_steps" ["c","t","columns"] (AY K)):
  FnOk P w K mg base CX0 44 f fd ["self","slots","limit"] (cG K ad Co):=by
 refine F.ok rJ (fun vs H Q E h=>?_) (fun cdv A outer s H vs Q E hr h=>?_)
 ·obtain⟨_,_,_,_,_,_,_,_,rfl,_,⟨_,_,rfl,_⟩,_⟩:=h; rfl
 ·obtain⟨h,dx,vc,vr,vk,st,as,call,rfl,a,⟨n,c,rfl,rfl⟩,k⟩:=h
  have fin:=e7 (K:=K) (ad:=ad) (Q:=Q) rfl k
  have e0:=tM (ax st) n c
  rw [e0] at fin
  have out1:(cD ((ax st).asked (.most n c))=[-1])→∀l,H l=none→Q (.ref l) (upd H l (.lst [.int (-1)])):=fun e l hl=>fin (Same.new hl).n (a.mono (Same.new hl)) (by rw [←e0,e]; exact⟨l,rfl,af⟩)
  refine⟨_,(ag (aS (PW.pt (ko (cq (aW (aP aX (hr.mono (by decide)) rfl (aa (pv 1) (aa am (aa (aO rfl T.cM) ah)))) (fun _=>rfl))) (gR (cq (aW (aP aX (hr.mono (by decide)) rfl (aa (pv 2) (aa am (aa (aO rfl T.dq) ah)))) (fun _=>rfl)))))) (aj (ay (aN (aa (aO rfl T.bf) ah)))) aC)
   (aj (ay (aN (aa (aP jv (hr.mono (by decide)) rfl (aa (pv 1) (aa (pv 2) (aa (gb aI (pv 0) (hr.mono (by decide))) ah)))) ah))))),?_⟩
  refine⟨_,rfl,_,_,_,rfl,_,rfl,dQ (fun h1=>gy ⟨(by show 1≤sizeLine; decide),out1 (by rw [e0,if_neg h1]; rfl)⟩) fun h1=>?_⟩
  refine⟨_,rfl,_,_,_,rfl,_,rfl,dQ (fun h2=>⟨(by show 1≤sizeLine; decide),out1 (by rw [e0,if_pos h1,if_neg h2]; rfl)⟩) fun h2=>?_⟩
  rw [if_pos h1,if_pos h2] at fin
  obtain⟨nn,rfl,e1,b1,b2⟩:=cW h1 (by decide)
  obtain⟨cc,rfl,e2,b3,b4⟩:=cW h2 (by decide)
  rw [e1,e2] at fin
  refine⟨_,rfl,_,rfl,_,rfl,h,dx,_,rfl,a.obj,bJ (by decide +kernel),h,dx,vc,vr,vk,st,rfl,a,fun H1 vk' sx a1 hk=>?_⟩
  refine(show AY K [.int (nn:Int),.int (cc:Int),vk'] H1 _ E0 from bZ (nn,cc) ⟨_,rfl,hk,(by show 1≤nn; omega),(by show nn≤20; omega)⟩ fun H2 r s2 h2=>?_)
  have h2:r=.int ((((Vagrag.row Vagrag.FAR nn).drop 1).takeWhile fun y=>decide (y≤cc)).length:Nat):=h2
  subst h2
  refine⟨(by show 1≤sizeLine; decide),fun l hl=>?_⟩
  exact fin ((sx.n a.obj).trans (s2.trans (Same.new hl)).n) (a1.mono (s2.trans (Same.new hl))) ⟨l,rfl,af⟩
noncomputable abbrev iz:Stmt:=bO (top 98) 9
theorem rH:aD ["self","steps","limit"] ["self","steps","limit"] (aw iz):=⟨rfl,rfl,rfl,by decide +kernel,rfl,by decide +kernel,by decide +kernel⟩
theorem Ia {f:Addr} {fd:FuncData} (T:Tx P K mg base ad) (F:Fun K "room" "Holder.room" iz f fd) (aX:Fb P w K mg base 40 "within" ["number","low","high"] cO) (aI:Mb P w K mg base (ad.cls "Holder") 43 "all_columns" ["self"] (mn K ad)) (gX:Fb P w K mg base 40 "fewest_slots" ["n","t","columns"] (FM K)):
  FnOk P w K mg base CX0 44 f fd ["self","steps","limit"] (cG K ad Cm):=by
 refine F.ok rH (fun vs H Q E h=>?_) (fun cdv A outer s H vs Q E hr h=>?_)
 ·obtain⟨_,_,_,_,_,_,_,_,rfl,_,⟨_,_,rfl,_⟩,_⟩:=h; rfl
 ·obtain⟨h,dx,vc,vr,vk,st,as,call,rfl,a,⟨n,c,rfl,rfl⟩,k⟩:=h
  have fin:=e7 (K:=K) (ad:=ad) (Q:=Q) rfl k
  have e0:=tL (ax st) n c
  rw [e0] at fin
  have out1:(cD ((ax st).asked (.room n c))=[-1])→∀l,H l=none→Q (.ref l) (upd H l (.lst [.int (-1)])):=fun e l hl=>fin (Same.new hl).n (a.mono (Same.new hl)) (by rw [←e0,e]; exact⟨l,rfl,af⟩)
  refine⟨_,(ag (aS (PW.pt (ko (cq (aW (aP aX (hr.mono (by decide)) rfl (aa (pv 1) (aa am (aa (aO rfl T.b7) ah)))) (fun _=>rfl))) (gR (cq (aW (aP aX (hr.mono (by decide)) rfl (aa (pv 2) (aa am (aa (aO rfl T.dq) ah)))) (fun _=>rfl)))))) (aj (ay (aN (aa (aO rfl T.bf) ah)))) aC)
   (aj (ay (aN (aa (aP gX (hr.mono (by decide)) rfl (aa (pv 1) (aa (pv 2) (aa (gb aI (pv 0) (hr.mono (by decide))) ah)))) ah))))),?_⟩
  refine⟨_,rfl,_,_,_,rfl,_,rfl,dQ (fun h1=>gy ⟨(by show 1≤sizeLine; decide),out1 (by rw [e0,if_neg h1]; rfl)⟩) fun h1=>?_⟩
  refine⟨_,rfl,_,_,_,rfl,_,rfl,dQ (fun h2=>⟨(by show 1≤sizeLine; decide),out1 (by rw [e0,if_pos h1,if_neg h2]; rfl)⟩) fun h2=>?_⟩
  rw [if_pos h1,if_pos h2] at fin
  obtain⟨nn,rfl,e1,b1,b2⟩:=cW h1 (by decide)
  obtain⟨cc,rfl,e2,b3,b4⟩:=cW h2 (by decide)
  rw [e1,e2] at fin
  refine⟨_,rfl,_,rfl,_,rfl,h,dx,_,rfl,a.obj,bJ (by decide +kernel),h,dx,vc,vr,vk,st,rfl,a,fun H1 vk' sx a1 hk=>?_⟩
  refine(show FM K [.int (nn:Int),.int (cc:Int),vk'] H1 _ E0 from bZ (nn,cc) ⟨_,rfl,hk,(by show nn≤60; omega)⟩ fun H2 r s2 h2=>?_)
  have h2:r=.int ((((List.range Vagrag.SLOTS).find? fun i=>decide (Vagrag.least nn (i+1)≤cc)).map fun i=>i+1).getD 0:Nat):=h2
  subst h2
  refine⟨(by show 1≤sizeLine; decide),fun l hl=>?_⟩
  exact fin ((sx.n a.obj).trans (s2.trans (Same.new hl)).n) (a1.mono (s2.trans (Same.new hl))) ⟨l,rfl,af⟩
noncomputable abbrev eF:Stmt:=bO (top 98) 10
theorem sc_Holder_schedule:aD ["self","steps","slots","numbers"] ["self","steps","slots"] (aw eF):=⟨rfl,rfl,rfl,by decide +kernel,rfl,by decide +kernel,by decide +kernel⟩
theorem zf {f:Addr} {fd:FuncData} (T:Tx P K mg base ad) (F:Fun K "schedule" "Holder.schedule" eF f fd) (aX:Fb P w K mg base 40 "within" ["number","low","high"] cO) (aI:Mb P w K mg base (ad.cls "Holder") 43 "all_columns" ["self"] (mn K ad)) (cv:Fb P w K mg base 42 "told_schedule" ["steps","slots","columns"] (m9 K)) (kG:Fb P w K mg base 40 "told_acts" ["acts"] (vZ K)):
  FnOk P w K mg base CX0 44 f fd ["self","steps","slots"] (cG K ad xF):=by
 refine F.ok sc_Holder_schedule (fun vs H Q E h=>?_) (fun cdv A outer s H vs Q E hr h=>?_)
 ·obtain⟨_,_,_,_,_,_,_,_,rfl,_,⟨_,_,rfl,_⟩,_⟩:=h; rfl
 ·obtain⟨h,dx,vc,vr,vk,st,as,call,rfl,a,⟨n,c,rfl,rfl⟩,k⟩:=h
  have fin:=e7 (K:=K) (ad:=ad) (Q:=Q) rfl k
  have e0:=k5 (ax st) n c
  rw [e0] at fin
  have out1:(cD ((ax st).asked (.schedule n c))=[-1])→∀l,H l=none→Q (.ref l) (upd H l (.lst [.int (-1)])):=fun e l hl=>fin (Same.new hl).n (a.mono (Same.new hl)) (by rw [←e0,e]; exact⟨l,rfl,af⟩)
  refine⟨_,(ag (aS (PW.pt (ko (cq (aW (aP aX (hr.mono (by decide)) rfl (aa (pv 1) (aa am (aa (aO rfl T.bS) ah)))) (fun _=>rfl))) (gR (cq (aW (aP aX (hr.mono (by decide)) rfl (aa (pv 2) (aa am (aa (aO rfl T.bo) ah)))) (fun _=>rfl)))))) (aj (ay (aN (aa (aO rfl T.bf) ah)))) aC)
   (ag (aF (i:=3) sc_Holder_schedule.nd rfl (Or.inl rfl) (aP kG (hr.mono (by decide)) rfl (aa (aP cv (hr.mono (by decide)) rfl (aa (pv 1) (aa (pv 2) (aa (gb aI (pv 0) (hr.mono (by decide))) ah)))) ah)))
   (aj (ay (aR jn (aN (aa (ba (iX (K:=K) rfl) rfl T.du PySem.boot_len (aa (pv 3) ah)) ah)) (pv 3)))))),?_⟩
  refine⟨_,rfl,_,_,_,rfl,_,rfl,dQ (fun h1=>gy ⟨(by show 1≤sizeLine; decide),out1 (by rw [e0,if_neg h1]; rfl)⟩) fun h1=>?_⟩
  refine⟨_,rfl,_,_,_,rfl,_,rfl,dQ (fun h2=>⟨(by show 1≤sizeLine; decide),out1 (by rw [e0,if_pos h1,if_neg h2]; rfl)⟩) fun h2=>?_⟩
  rw [if_pos h1,if_pos h2] at fin
  obtain⟨nn,rfl,e1,b1,b2⟩:=cW h1 (by decide)
  obtain⟨cc,rfl,e2,b3,b4⟩:=cW h2 (by decide)
  rw [e1,e2] at fin
  refine⟨_,rfl,_,rfl,_,rfl,h,dx,_,rfl,a.obj,bJ (by decide +kernel),h,dx,vc,vr,vk,st,rfl,a,fun H1 vk' sx a1 hk=>?_⟩
  refine(show m9 K [.int (nn:Int),.int (cc:Int),vk'] H1 _ E0 from bZ (nn,cc) ⟨_,rfl,hk,(by show 1≤nn; omega),(by show nn≤60; omega),(by show 1≤cc; omega),(by show cc≤20; omega)⟩ fun H2 r s2 h2=>?_)
  have h2:rActsT K H2 r (Vagrag.schedule nn cc):=h2
  have hsl:=BM.gq (n:=nn) (c:=cc) (by omega) (by omega)
  refine(show vZ K [r] H2 _ E0 from bZ (Vagrag.schedule nn cc) ⟨_,rfl,h2.acts,(by show(Vagrag.schedule nn cc).length≤100000; omega)⟩ fun H3 r3 s3 h3=>?_)
  obtain⟨ln,rfl,hln⟩:=h3
  have hln:H3 ln=some (.lst (((Vagrag.schedule nn cc).flatMap actTold).map V.int)):=hln
  have htl:=m8 (Vagrag.schedule nn cc)
  refine⟨_,rfl,ln,_,rfl,.inl (SqL.of hln),(by show 1≤sizeLine; decide),fun l1 hl1=>⟨_,rfl,l1,ln,_,_,rfl,rfl,af,(Same.new hl1) _ _ hln,?_,fun l2 hl2=>?_⟩⟩
  ·rw [List.length_map,sizeLine_eq]
   show 1+_≤_
   omega
  ·refine fin ((sx.n a.obj).trans (s2.trans (s3.trans ((Same.new hl1).trans (Same.new hl2)))).n) (a1.mono (s2.trans (s3.trans ((Same.new hl1).trans (Same.new hl2))))) ⟨l2,rfl,?_⟩
   rw [af,List.length_map]
   rfl
noncomputable abbrev gP:Stmt:=bO (top 98) 11
theorem sc_Holder_check:aD ["self","steps","slots","act_numbers","acts","refusal","desk","hindrance"] ["self","steps","slots","act_numbers"] (aw gP):=⟨rfl,rfl,rfl,by decide +kernel,rfl,by decide +kernel,by decide +kernel⟩
theorem Gg {f:Addr} {fd:FuncData} (T:Tx P K mg base ad) (F:Fun K "check" "Holder.check" gP f fd) (aX:Fb P w K mg base 40 "within" ["number","low","high"] cO) (ee:Fb P w K mg base 41 "read_acts" ["numbers"] (ng K)) (cA:Fb P w K mg base 40 "acts_refusal" ["acts"] (A1 K))
  (oY:Cb P w K mg base (ad.cls "Desk") 40 "Desk" ["self","steps","slots"] (ml (ad.cls "Desk"))) (ef:Fb P w K mg base 41 "play_acts" ["desk","acts"] (we K (ad.cls "Desk"))) (gY:Fb P w K mg base 40 "count_filled" ["desk"] (yE (ad.cls "Desk"))):
  FnOk P w K mg base CX0 42 f fd ["self","steps","slots","act_numbers"] (cG K ad (xH K)):=by
 refine F.ok sc_Holder_check (fun vs H Q E h=>?_) (fun cdv A outer s H vs Q E hr h=>?_)
 ·obtain⟨_,_,_,_,_,_,_,_,rfl,_,⟨_,_,_,_,rfl,_⟩,_⟩:=h; rfl
 ·obtain⟨h,dx,vc,vr,vk,st,as,call,rfl,a,⟨n,c,v,ns,rfl,hv,hnl,rfl⟩,k⟩:=h
  have fin:=e7 (K:=K) (ad:=ad) (Q:=Q) rfl k
  have e0:=p6 (ax st) n c ns
  rw [e0] at fin
  have out1:∀(z:Int) (H1:Hp),Same H H1→(cD ((ax st).asked (.check n c ns))=[z])→∀l,H1 l=none→Q (.ref l) (upd H1 l (.lst [.int z])):=fun z H1 s1 e l hl=>fin (s1.trans (Same.new hl)).n (a.mono (s1.trans (Same.new hl))) (by rw [←e0,e]; exact⟨l,rfl,af⟩)
  refine⟨_,(ag (aS (PW.pt (ko (cq (aW (aP aX (hr.mono (by decide)) rfl (aa (pv 1) (aa am (aa (aO rfl T.bS) ah)))) (fun _=>rfl))) (gR (cq (aW (aP aX (hr.mono (by decide)) rfl (aa (pv 2) (aa am (aa (aO rfl T.bo) ah)))) (fun _=>rfl)))))) (aj (ay (aN (aa (aO rfl T.bf) ah)))) aC)
   (ag (aF (i:=4) sc_Holder_check.nd rfl (Or.inl rfl) (aP ee (hr.mono (by decide)) rfl (aa (pv 3) ah)))
   (ag (aF (i:=5) sc_Holder_check.nd rfl (Or.inl rfl) (aP cA (hr.mono (by decide)) rfl (aa (pv 4) ah)))
   (ag (aS (aW (pv 5) (fun _=>rfl)) (aj (ay (aN (aa (pv 5) ah)))) aC)
   (ag (aF (i:=6) sc_Holder_check.nd rfl (Or.inl rfl) (C5 oY (hr.mono (by decide)) rfl (aa (pv 1) (aa (pv 2) ah))))
   (ag (aF (i:=7) sc_Holder_check.nd rfl (Or.inl rfl) (aP ef (hr.mono (by decide)) rfl (aa (pv 6) (aa (pv 4) ah))))
   (ag (aS (aW (pv 7) (fun _=>rfl)) (aj (ay (aR jn (aN (aa am ah)) (pv 7)))) aC)
   (aj (ay (aN (aa am (aa (aV (pv 6) rfl) (aa (aP gY (hr.mono (by decide)) rfl (aa (pv 6) ah)) ah))))))))))))),?_⟩
  refine⟨_,rfl,_,_,_,rfl,_,rfl,dQ (fun h1=>gy ⟨(by show 1≤sizeLine; decide),out1 _ _ (Same.refl _) (by rw [e0,if_neg h1]; rfl)⟩) fun h1=>?_⟩
  refine⟨_,rfl,_,_,_,rfl,_,rfl,dQ (fun h2=>⟨(by show 1≤sizeLine; decide),out1 _ _ (Same.refl _) (by rw [e0,if_pos h1,if_neg h2]; rfl)⟩) fun h2=>?_⟩
  rw [if_pos h1,if_pos h2] at fin e0
  obtain⟨nn,rfl,e1,b1,b2⟩:=cW h1 (by decide)
  obtain⟨cc,rfl,e2,b3,b4⟩:=cW h2 (by decide)
  rw [e1,e2] at fin e0
  refine⟨_,rfl,?_⟩
  refine(show ng K [v] H _ E0 from bZ ns ⟨_,rfl,hv,hnl⟩ fun H1 r s1 h1'=>?_)
  have h1':cf (pO K) H1 r (Vagrag.actsOf ns):=h1'
  refine⟨_,rfl,r,_,rfl,h1',?_⟩
  refine⟨_,rfl,_,rfl,nJ (fun hz=>?_) fun hz=>?_⟩
  ·refine⟨_,rfl,(by show 1≤sizeLine; decide),out1 _ _ s1 ?_⟩
   rw [e0,if_neg hz]
   rfl
  rw [if_pos hz] at fin
  cases hao:Vagrag.actsOf ns with
  | none=>rw [hao] at hz; cases hz
  | some acts=>
   rw [hao] at h1' fin hz
   have hal:acts.length≤2000:=by
    have hz:(if 2000 < acts.length then(-7:Int) else 0)=0:=hz
    split at hz
    ·cases hz
    ·omega
   obtain⟨hne,hacts⟩:=h1'
   refine⟨_,rfl,_,rfl,fun pd ddx npd nddx nxp=>?_⟩
   have npd:H1 pd=none:=npd
   have nddx:H1 ddx=none:=nddx
   refine⟨pd,ddx,_,cc,rfl,by omega,by omega,af,fun H2 lsl ltl d1 d2 d3 n1 n2 n12 sx=>⟨rfl,?_⟩⟩
   have fr:∀{b:Addr},upd (upd H1 ddx (.own pd)) pd (.ins (ad.cls "Desk") ddx []) b=none→H1 b=none:=fun {b} z=>by
    have n1:b≠pd:=fun q=>by rw [q,af] at z; cases z
    rw [aq n1] at z
    have n2:b≠ddx:=fun q=>by rw [q,af] at z; cases z
    rw [aq n2] at z
    exact z
   have al:=fr n1
   have at_:=fr n2
   have s2:Same H1 H2:=fun b o e=>sx b o (by rw [aq (az e npd),aq (az e nddx)]; exact e) (az e npd)
   have d:=tw (n:=nn) (k:=cc) (by omega) d1 d2 d3 n12
   refine⟨_,rfl,_,rfl,?_⟩
   refine⟨pd,ddx,lsl,ltl,r,nn,cc,_,acts,rfl,d,BM.k3 nn cc,by omega,gU mTI _ _ _ _ (s2.hide2 al at_) hacts,by omega,fun H3 r3 s3 hres=>?_⟩
   have s13:Same H1 H3:=fun b o e=>s3 b o (s2 b o e) (az e npd) (az e al) (az e at_)
   have s03:=s1.trans s13
   have hres:(match Vagrag.play nn cc acts with | .ok g'=>DeskAt (ad.cls "Desk") pd ddx lsl ltl nn g' H3∧∃l,r3=.ref l∧H3 l=some (.lst []) | .error (i,e)=>∃l,r3=.ref l∧H3 l=some (.lst [.int (i:Nat),.int (e:Nat)])):=hres
   have fin:∀⦃H' r dx' vc' vr' vk'⦄,SameN H H'→HoldAt K ad h dx' vc' vr' vk' st H'→rLT H' r (Vagrag.checkTold nn cc acts)→Q r H':=fin
   unfold Vagrag.checkTold at fin
   cases hplay:Vagrag.play nn cc acts with
   | error ie=>
    obtain⟨i,e⟩:=ie
    rw [hplay] at hres fin
    obtain⟨lr,rfl,hlr⟩:=hres
    refine⟨_,rfl,true,.inl ⟨_,SqL.of hlr,rfl⟩,gy ⟨(by show 1≤sizeLine; decide),fun l1 hl1=>⟨_,rfl,l1,lr,_,_,rfl,rfl,af,(Same.new hl1) _ _ hlr,(by show 1+2≤sizeLine; decide),fun l2 hl2=>?_⟩⟩⟩
    exact fin (s03.trans ((Same.new hl1).trans (Same.new hl2))).n (a.mono (s03.trans ((Same.new hl1).trans (Same.new hl2)))) ⟨l2,rfl,af⟩
   | ok g'=>
    rw [hplay] at hres fin
    obtain⟨dd,lr,rfl,hlr⟩:=hres
    have hgl:g'.slots.length≤1000:=by
     have:BM.GOk nn cc g':=by
      have key:∀(l:List Vagrag.Act) (i:Nat) (g:Game),BM.GOk nn cc g→Vagrag.playFrom nn i g l=.ok g'→BM.GOk nn cc g':=by
       intro l
       induction l with
       | nil=>
        intro i g o e
        unfold Vagrag.playFrom at e
        split at e
        ·have e:g=g':=by injection e
         rw [←e]; exact o
        ·cases e
       | cons b rr ih=>
        intro i g o e
        unfold Vagrag.playFrom at e
        cases q:Vagrag.act nn g b with
        | error z=>rw [q] at e; cases e
        | ok g1=>rw [q] at e; exact ih _ g1 (BM.Cw o q) e
      exact key acts 0 _ (BM.k3 nn cc) hplay
     rw [this.len]
     omega
    refine⟨_,rfl,false,.inl ⟨_,SqL.of hlr,rfl⟩,jq ?_⟩
    refine⟨_,rfl,pd,_,ddx,_,.int (g'.forward:Int),rfl,dd.obj,T.bj,T.n_Desk_stepped,cF df (i:=4) rfl rfl,_,rfl,pd,ddx,lsl,ltl,nn,g',rfl,dd,hgl,fun H4 s4=>?_⟩
    refine⟨(by show 3≤sizeLine; decide),fun l1 hl1=>?_⟩
    exact fin (s03.trans (s4.trans (Same.new hl1))).n (a.mono (s03.trans (s4.trans (Same.new hl1)))) ⟨l1,rfl,af⟩
end
end B
namespace B
open PySem PySem.Spec PyProof.Rows L2
open Vagrag (Game actTold)
theorem gh {st:HSt} {i:Int} (h:¬(0≤i∧i≤((ax st).n:Int))):(ax st).asked (.state i)=.error (-1):=by
 show(Vagrag.ranged i 0 ((ax st).n:Int) >>= fun i=>(ax st).here >>= fun p=>Vagrag.tell (p.2.getD i []))=_
 rw [bp h]; rfl
theorem gg {st:HSt} {i:Int} (ok:oh st) (h:0≤i∧i≤((ax st).n:Int)) (hr:db st≠0):(ax st).asked (.state i)=.error (db st):=by
 show(Vagrag.ranged i 0 ((ax st).n:Int) >>= fun i=>(ax st).here >>= fun p=>Vagrag.tell (p.2.getD i []))=_
 rw [bA h,zD ok hr]; rfl
theorem vy {st:HSt} {c:Ch} {n:Nat} {x:List Rat} {l:List (List Rat)} (ok:oh st) (hc:st.chain=some c) (hr:st.run=some (n,x)) (ht:BM.bn (a6 c) c.outs n 0 x=.ok l):(ax st).here=.ok (cX c,(x::l.map (BM.aY c.outs)).map (List.map BM.aB)):=by
 rw [zC ok hc hr,ht]
theorem uo {st:HSt} {n:Nat} {x:List Rat} (hr:st.run=some (n,x)):(ax st).n=n:=by unfold ax; rw [hr]
theorem rk {st:HSt} {n:Nat} {x:List Rat} (hr:st.run=some (n,x)):(ax st).start=x.map BM.aB:=by unfold ax; rw [hr]
theorem k4 {st:HSt} {i:Nat} {c:Ch} {n:Nat} {x:List Rat} {l:List (List Rat)} (ok:oh st) (hc:st.chain=some c) (hr:st.run=some (n,x)) (ht:BM.bn (a6 c) c.outs n 0 x=.ok l) (hi:i≤n):(ax st).asked (.state (i:Int))=BM.dh ((x::l.map (BM.aY c.outs)).getD i []):=by
 show(Vagrag.ranged (i:Int) 0 ((ax st).n:Int) >>= fun i=>(ax st).here >>= fun p=>Vagrag.tell (p.2.getD i []))=_
 rw [bA ⟨by omega,by rw [uo hr]; omega⟩,vy ok hc hr ht]
 show Vagrag.tell (((x::l.map (BM.aY c.outs)).map (List.map BM.aB)).getD (i:Int).toNat [])=_
 have htl:=(BM.dM ht).1
 rw [show(i:Int).toNat=i by omega,BM.lL (by rw [List.length_cons,List.length_map]; omega),BM.fW]
theorem dt {st:HSt} {ns:List Int} {α:Type} (f:List Vagraa.Frac→Vagrag.Chain×List (List Vagraa.Frac)→Except Int α) (ok:oh st) (h:(if BM.rdF ns (a8 st)=none then(-2:Int) else db st)≠0):
  (Vagrag.fracs (((ax st).chain.map fun c=>c.size).getD 0) ns >>= fun w=>(ax st).here >>= fun p=>f w p)=.error (if BM.rdF ns (a8 st)=none then(-2:Int) else db st):=by
 rw [z0,BM.o4]
 cases hq:BM.rdF ns (a8 st) with
 | none=>rw [if_pos rfl]; rfl
 | some qs=>
  rw [hq,if_neg (by intro z; cases z)] at h
  rw [if_neg (by intro z; cases z)]
  show((ax st).here >>= fun p=>f (qs.map BM.aB) p)=_
  rw [zD ok h]
  rfl
theorem iq {st:HSt} {ns:List Int} {qs:List Rat} {c:Ch} {n:Nat} {x:List Rat} {l:List (List Rat)} {α:Type} (f:List Vagraa.Frac→Vagrag.Chain×List (List Vagraa.Frac)→Except Int α) (ok:oh st) (hq:BM.rdF ns (a8 st)=some qs) (hc:st.chain=some c) (hr:st.run=some (n,x)) (ht:BM.bn (a6 c) c.outs n 0 x=.ok l):
  (Vagrag.fracs (((ax st).chain.map fun c=>c.size).getD 0) ns >>= fun w=>(ax st).here >>= fun p=>f w p)=f (qs.map BM.aB) (cX c,(x::l.map (BM.aY c.outs)).map (List.map BM.aB)):=by
 rw [z0,BM.o4,hq]
 show((ax st).here >>= fun p=>f (qs.map BM.aB) p)=_
 rw [vy ok hc hr ht]
 rfl
section
variable {P:Program} {w:World} {K:PySem.W.Frag} {mg:Str→Option Value} {base:Heap} {ad:Ad}
theorem il {st:HSt} (ok:oh st):a8 st≤4:=by
 unfold a8
 cases h:st.chain with
 | none=>exact Nat.zero_le _
 | some c=>exact(ok.chain c h).p4
theorem gS {st:HSt} {c:Ch} (h:st.chain=some c):a8 st=c.parts:=by unfold a8; rw [h]
theorem qL {α:Type} {R:Rep α} {H:Hp} {v:V} {o:Option α} (h:cf R H v o):(if v=.non then(-2:Int) else z)=if o=none then(-2:Int) else z:=by
 cases o with
 | none=>have h:v=.non:=h
         rw [if_pos h,if_pos rfl]
 | some x=>rw [if_neg h.1,if_neg (by intro z; cases z)]
noncomputable abbrev gL:Stmt:=bO (top 98) 3
theorem sc_Holder_state:aD ["self","number","refusal"] ["self","number"] (aw gL):=⟨rfl,rfl,rfl,by decide +kernel,rfl,by decide +kernel,by decide +kernel⟩
noncomputable def xD:List V→Hp→Vagrag.Call→Prop:=fun as _ call=>∃i:Int,as=[.int i]∧call=.state i
theorem Gc {f:Addr} {fd:FuncData} (T:Tx P K mg base ad) (F:Fun K "state" "Holder.state" gL f fd) (aX:Fb P w K mg base 40 "within" ["number","low","high"] cO) (bG:Mb P w K mg base (ad.cls "Holder") 40 "run_refusal" ["self"] (AV K ad)) (eP:Fb P w K mg base 40 "row_of" ["fractions"] (jf K)) (bx:Fb P w K mg base 42 "told_fractions" ["row"] (mj K)):
  FnOk P w K mg base CX0 43 f fd ["self","number"] (cG K ad xD):=by
 refine F.ok sc_Holder_state (fun vs H Q E h=>?_) (fun cdv A outer s H vs Q E hr h=>?_)
 ·obtain⟨_,_,_,_,_,_,_,_,rfl,_,⟨_,rfl,_⟩,_⟩:=h; rfl
 ·obtain⟨h,dx,vc,vr,vk,st,as,call,rfl,a,⟨i,rfl,rfl⟩,k⟩:=h
  have fin:=e7 (K:=K) (ad:=ad) (Q:=Q) rfl k
  have out1:∀z:Int,(ax st).asked (.state i)=.error z→∀l,H l=none→Q (.ref l) (upd H l (.lst [.int z])):=fun z e l hl=>fin (Same.new hl).n (a.mono (Same.new hl)) (by rw [e]; exact⟨l,rfl,af⟩)
  refine⟨_,(ag (aS (cq (aW (aP aX (hr.mono (by decide)) rfl (aa (pv 1) (aa am (aa (iW (aE eM (aV (pv 0) rfl) bM (aK _)) am (aV (aV (pv 0) rfl) rfl)) ah)))) (fun _=>rfl))) (aj (ay (aN (aa (aO rfl T.bf) ah)))) aC)
   (ag (aF (i:=2) sc_Holder_state.nd rfl (Or.inl rfl) (gb bG (pv 0) (hr.mono (by decide))))
   (ag (aS (aW (pv 2) (fun _=>rfl)) (aj (ay (aN (aa (pv 2) ah)))) aC)
   (aj (ay (aP bx (hr.mono (by decide)) rfl (aa (aP eP (hr.mono (by decide)) rfl (aa (aA aQ (aV (aV (pv 0) rfl) rfl) (pv 1) (fun _ _=>rfl)) ah)) ah))))))),?_⟩
  cases hrun:st.run with
  | none=>
   have e:=a.run0 hrun
   subst e
   have hn:((ax st).n:Int)=0:=by unfold ax; rw [hrun]; rfl
   have href:db st=-4:=by unfold db; rw [hrun]
   refine⟨_,rfl,_,rfl,h,_,dx,_,.non,rfl,a.obj,T.aH,T.n_Holder_run,HoldAt.f_run,rfl,_,rfl,cp rfl ⟨_,_,_,rfl,_,rfl,dQ (fun h1=>⟨(by show 1≤sizeLine; decide),out1 _ (gh (by rw [hn]; exact h1))⟩) fun h1=>?_⟩⟩
   refine⟨_,rfl,h,dx,_,rfl,a.obj,bJ (by decide +kernel),h,dx,vc,.non,vk,st,rfl,a,?_⟩
   rw [href]
   refine⟨_,rfl,_,rfl,nJ (fun _=>⟨_,rfl,(by show 1≤sizeLine; decide),out1 _ ?_⟩) fun z=>absurd z (by decide)⟩
   rw [←href]
   exact gg a.ok (by rw [hn]; exact h1) (by rw [href]; decide)
  | some rr=>
   obtain⟨n,x⟩:=rr
   obtain⟨c,p,dxr,ls,lw,lf,vt,hc,rfl,R⟩:=a.run1 n x hrun
   have hn:((ax st).n:Int)=(n:Int):=by rw [uo hrun]
   refine⟨_,rfl,_,rfl,h,_,dx,_,.ref p,rfl,a.obj,T.aH,T.n_Holder_run,HoldAt.f_run,rfl,_,rfl,aM (fun z=>by cases z) ?_⟩
   refine⟨_,rfl,h,_,dx,_,.ref p,rfl,a.obj,T.aH,T.n_Holder_run,HoldAt.f_run,p,_,dxr,_,.int (n:Int),rfl,R.obj,T.ci,T.n_Run_steps,cF kj (i:=0) rfl rfl,?_⟩
   refine⟨_,_,_,rfl,_,rfl,dQ (fun h1=>⟨(by show 1≤sizeLine; decide),out1 _ (gh (by rw [hn]; exact h1))⟩) fun h1=>?_⟩
   refine⟨_,rfl,h,dx,_,rfl,a.obj,bJ (by decide +kernel),h,dx,vc,.ref p,vk,st,rfl,a,?_⟩
   refine⟨_,rfl,_,rfl,nJ (fun hz=>⟨_,rfl,(by show 1≤sizeLine; decide),out1 _ (gg a.ok (by rw [hn]; exact h1) hz)⟩) fun hz=>?_⟩
   obtain⟨c',n',x',l,hc',hr',ht,hxl,hxs,hn1,hn40⟩:=dN a.ok hz
   rw [hc] at hc'
   rw [hrun] at hr'
   have hc':=Option.some.inj hc'
   have hr':=Option.some.inj hr'
   injection hr' with hr1 hr2
   subst hc' hr1 hr2
   obtain⟨ii,rfl,e1,b1,b2⟩:=cW h1 (by decide)
   obtain⟨_,⟨als,sv,els,hls,hps⟩,_,_⟩:=R.good l ht
   cases els
   have htl:=(BM.dM ht).1
   have hsi:(x::l.map (BM.aY c.outs))[ii]?= some ((x::l.map (BM.aY c.outs)).getD ii []):=by
    rw [List.getD_eq_getElem?_getD,List.getElem?_eq_getElem (by rw [List.length_cons,List.length_map]; omega)]
    rfl
   obtain⟨vi,hvi,hri⟩:=bt hps hsi
   have hask:=k4 (i:=ii) a.ok hc hrun ht (by omega)
   rw [hask] at fin
   have ok:=a.ok.chain c hc
   have hsms:Sms ((x::l.map (BM.aY c.outs)).getD ii [])∧((x::l.map (BM.aY c.outs)).getD ii []).length=c.parts:=by
    rcases List.mem_cons.mp (List.mem_of_getElem? hsi) with e | e
    ·rw [e]; exact⟨hxs,hxl⟩
    ·obtain⟨vs,hvs,e⟩:=List.mem_map.mp e
     rw [←e]
     obtain⟨j,hj,ej⟩:=List.getElem_of_mem hvs
     have hst:=(BM.dM ht).2 j vs (by rw [List.getElem?_eq_getElem hj,ej])
     have hw:=(vO ok hst).sm
     have hl:=(vO ok hst).len
     refine⟨fun q hq=>?_,by unfold BM.aY; rw [List.length_map]; exact ok.ol⟩
     obtain⟨o,ho,e⟩:=List.mem_map.mp hq
     have hoo:=ok.ok o ho
     rw [←e,List.getD_eq_getElem?_getD,List.getElem?_eq_getElem (by omega)]
     exact hw _ (List.getElem_mem ..)
   generalize (x::l.map (BM.aY c.outs)).getD ii []=sti at hri hsms fin hsi
   refine⟨_,rfl,h,_,dx,_,.ref p,rfl,a.obj,T.aH,T.n_Holder_run,HoldAt.f_run,p,_,dxr,_,.ref ls,rfl,R.obj,T.ci,T.n_Run_states,cF kj (i:=1) rfl rfl,_,rfl,ls,_,_,_,rfl,rfl,hls,bW rfl hvi,?_⟩
   refine(show jf K [vi] H _ E0 from bZ sti ⟨_,rfl,hri,hsms.1,by rw [hsms.2]; have:=ok.p4; omega⟩ fun H2 r2 s2 h2=>?_)
   have h2:dg K H2 r2 (qd sti):=h2
   obtain⟨r0,rv0,rb0⟩:=oA ok hsms.1 hsms.2
   refine(show mj K [r2] H2 _ E0 from bZ (qd sti) ⟨_,rfl,h2,r0.bd.pos,by rw [r0.len]; have:=ok.p4; omega⟩ fun H3 r3 s3 h3=>?_)
   have h3:rLT H3 r3 (cD (BM.dh (BM.val (qd sti)))):=h3
   rw [rv0] at h3
   exact fin (s2.trans s3).n (a.mono (s2.trans s3)) h3
noncomputable abbrev eG:Stmt:=bO (top 98) 4
theorem sc_Holder_backward:aD ["self","numbers","weights","refusal"] ["self","numbers"] (aw eG):=⟨rfl,rfl,rfl,by decide +kernel,rfl,by decide +kernel,by decide +kernel⟩
noncomputable def Cq (K:PySem.W.Frag):List V→Hp→Vagrag.Call→Prop:=fun as H call=>∃(v:V) (ns:List Int),as=[v]∧rLI K H v ns∧Sml ns∧call=.backward ns
noncomputable def Cp (K:PySem.W.Frag):List V→Hp→Vagrag.Call→Prop:=fun as H call=>∃(v:V) (ns:List Int),as=[v]∧rLI K H v ns∧Sml ns∧call=.forward ns
theorem xB (s:Vagrag.State) (ns:List Int):s.asked (.backward ns)=(Vagrag.fracs ((s.chain.map fun c=>c.size).getD 0) ns >>= fun w=>s.here >>= fun p=>Vagrag.tell (p.1.backward p.2 s.n w)):=rfl
theorem xg (s:Vagrag.State) (ns:List Int):s.asked (.forward ns)=(Vagrag.fracs ((s.chain.map fun c=>c.size).getD 0) ns >>= fun w=>s.here >>= fun p=>Vagrag.tell (p.1.forward p.2 s.n 0 w)):=rfl
theorem zj {f:Addr} {fd:FuncData} (T:Tx P K mg base ad) (F:Fun K "backward" "Holder.backward" eG f fd) (a9:Fb P w K mg base 42 "read_fractions" ["numbers","count"] (gG K)) (aZ:Mb P w K mg base (ad.cls "Holder") 40 "count_parts" ["self"] (ni K ad)) (aL:Mb P w K mg base (ad.cls "Holder") 41 "fractions_refusal" ["self","fractions"] (rq K ad)) (bB:Mb P w K mg base (ad.cls "Holder") 47 "turn_through" ["self","order","weights"] (oq K ad)):
  FnOk P w K mg base CX0 48 f fd ["self","numbers"] (cG K ad (Cq K)):=by
 refine F.ok sc_Holder_backward (fun vs H Q E h=>?_) (fun cdv A outer s H vs Q E hr h=>?_)
 ·obtain⟨_,_,_,_,_,_,_,_,rfl,_,⟨_,_,rfl,_⟩,_⟩:=h; rfl
 ·obtain⟨h,dx,vc,vr,vk,st,as,call,rfl,a,⟨v,ns,rfl,hv,hsml,rfl⟩,k⟩:=h
  have fin:=e7 (K:=K) (ad:=ad) (Q:=Q) rfl k
  refine⟨_,(ag (aF (i:=2) sc_Holder_backward.nd rfl (Or.inl rfl) (aP a9 (hr.mono (by decide)) rfl (aa (pv 1) (aa (gb aZ (pv 0) (hr.mono (by decide))) ah))))
   (ag (aF (i:=3) sc_Holder_backward.nd rfl (Or.inl rfl) (dO aL (pv 0) (hr.mono (by decide)) (aa (pv 2) ah)))
   (ag (aS (aW (pv 3) (fun _=>rfl)) (aj (ay (aN (aa (pv 3) ah)))) aC)
   (aj (ay (dO bB (pv 0) (hr.mono (by decide)) (aa (oO (Cj rfl) rfl T.xC Cl (aa (oO Fa rfl T.cN boot_range (aa (aR fE (aV (aV (pv 0) rfl) rfl) am) (aa (rY mf am) (aa (rY mf am) ah)))) ah)) (aa (pv 2) ah)))))))),?_⟩
  refine⟨_,rfl,_,rfl,h,dx,_,rfl,a.obj,bJ (by decide +kernel),h,dx,vc,vr,vk,st,rfl,a,?_⟩
  refine(show gG K [v,.int (a8 st:Nat)] H _ E0 from bZ (ns,a8 st) ⟨_,rfl,hv,by show a8 st < 1000; have:=il a.ok; omega⟩ fun H1 r s1 h1=>?_)
  have h1:cf (rLstT (rFr K)) H1 r (BM.rdF ns (a8 st)):=h1
  have a1:=a.mono s1
  refine⟨_,rfl,h,dx,_,rfl,a1.obj,bJ (by decide +kernel),_,rfl,h,dx,vc,vr,vk,r,st,rfl,a1,?_⟩
  rw [qL h1]
  refine⟨_,rfl,_,rfl,nJ (fun hz=>⟨_,rfl,(by show 1≤sizeLine; decide),fun l hl=>?_⟩) fun hz=>?_⟩
  ·refine fin (s1.trans (Same.new hl)).n (a1.mono (Same.new hl)) ?_
   rw [xB,dt (fun w p=>Vagrag.tell (p.1.backward p.2 (ax st).n w)) a.ok hz]
   exact⟨l,rfl,af⟩
  cases hq:BM.rdF ns (a8 st) with
  | none=>rw [hq,if_pos rfl] at hz; cases hz
  | some qs=>
   rw [hq,if_neg (by intro z; cases z)] at hz
   rw [hq] at h1
   obtain⟨c,n,x,l,hc,hrun,ht,hxl,hxs,hn1,hn40⟩:=dN a.ok hz
   obtain⟨c',p,dxr,ls,lw,lf,vt,hc',rfl,R⟩:=a1.run1 n x hrun
   rw [hc] at hc'
   have hc':=Option.some.inj hc'
   subst hc'
   have ok:=a.ok.chain c hc
   rw [xB,iq (fun w p=>Vagrag.tell (p.1.backward p.2 (ax st).n w)) a.ok hq hc hrun ht] at fin
   have fin:∀⦃H' r dx' vc' vr' vk'⦄,SameN H H'→HoldAt K ad h dx' vc' vr' vk' st H'→rLT H' r (cD (Vagrag.tell ((cX c).backward ((x::l.map (BM.aY c.outs)).map (List.map BM.aB)) (ax st).n (qs.map BM.aB))))→Q r H':=fin
   have eb:(cX c).backward ((x::l.map (BM.aY c.outs)).map (List.map BM.aB)) n (qs.map BM.aB)=(BM.dc (a6 c) c.outs c.parts l n qs).map BM.aB:=BM.jE (c:=cX c) (jp ok) ht n qs (Nat.le_refl _)
   rw [uo hrun,eb,BM.fW] at fin
   have fin:∀⦃H' r dx' vc' vr' vk'⦄,SameN H H'→HoldAt K ad h dx' vc' vr' vk' st H'→rLT H' r (cD (BM.dh (BM.dc (a6 c) c.outs c.parts l n qs)))→Q r H':=fin
   refine⟨_,rfl,h,dx,_,rfl,a1.obj,bJ (by decide +kernel),_,rfl,h,_,dx,_,.ref p,rfl,a1.obj,T.aH,T.n_Holder_run,HoldAt.f_run,p,_,dxr,_,.int (n:Int),rfl,R.obj,T.ci,T.n_Run_steps,cF kj (i:=0) rfl rfl,_,_,rfl,rfl,_,rfl,_,rfl,(n:Int) - 1,-1,-1,n,rfl,?_,fun rg hrg=>?_⟩
   ·have:=RgC.neg (i:=(n:Int) - 1) (j:=-1) (by omega) (by omega) (by decide) (by decide)
    rw [show((n:Int) - 1 - -1).toNat=n by omega] at this
    exact this
   have rgc:RgC ((n:Int) - 1) (-1) (-1) n:=by
    have:=RgC.neg (i:=(n:Int) - 1) (j:=-1) (by omega) (by omega) (by decide) (by decide)
    rw [show((n:Int) - 1 - -1).toNat=n by omega] at this
    exact this
   refine⟨rg,_,_,_,n,rfl,af,rgc,by omega,fun lo hlo=>?_⟩
   have s2:=(Same.new (o:=.ext (Di rg ((n:Int) - 1) (-1) (-1))) hrg).trans (Same.new (o:=.lst ((List.range n).map fun k=>V.int ((n:Int) - 1+(k:Nat)*-1))) hlo)
   refine⟨_,rfl,?_⟩
   refine⟨h,dx,vc,.ref p,vk,.ref lo,r,st,c,n,x,l,qs,rfl,a1.mono s2,hc,hrun,ht,⟨lo,rfl,SqL.of af⟩,gU mFr _ _ _ _ s2 (rLstT.lst h1.2),iU hsml hq,?_,fun H3 r3 sn3 a3 h3=>fin ((s1.trans s2).n.trans sn3) a3 h3⟩
   rw [BM.lC hq,gS hc]
noncomputable abbrev fB:Stmt:=bO (top 98) 5
theorem sc_Holder_forward:aD ["self","numbers","direction","refusal","row","table"] ["self","numbers"] (aw fB):=⟨rfl,rfl,rfl,by decide +kernel,rfl,by decide +kernel,by decide +kernel⟩
theorem Bt {f:Addr} {fd:FuncData} (T:Tx P K mg base ad) (F:Fun K "forward" "Holder.forward" fB f fd) (a9:Fb P w K mg base 42 "read_fractions" ["numbers","count"] (gG K)) (aZ:Mb P w K mg base (ad.cls "Holder") 40 "count_parts" ["self"] (ni K ad)) (aL:Mb P w K mg base (ad.cls "Holder") 41 "fractions_refusal" ["self","fractions"] (rq K ad))
  (ec:Fb P w K mg base 46 "tables_of" ["chain","run"] (AU K (ad.cls "Chain") (ad.cls "Run"))) (eP:Fb P w K mg base 40 "row_of" ["fractions"] (jf K)) (BR:Fb P w K mg base 41 "push" ["direction","table"] (AW K)) (bx:Fb P w K mg base 42 "told_fractions" ["row"] (mj K)):
  FnOk P w K mg base CX0 47 f fd ["self","numbers"] (cG K ad (Cp K)):=by
 refine F.ok sc_Holder_forward (fun vs H Q E h=>?_) (fun cdv A outer s H vs Q E hr h=>?_)
 ·obtain⟨_,_,_,_,_,_,_,_,rfl,_,⟨_,_,rfl,_⟩,_⟩:=h; rfl
 ·obtain⟨h,dx,vc,vr,vk,st,as,call,rfl,a,⟨v,ns,rfl,hv,hsml,rfl⟩,k⟩:=h
  have fin:=e7 (K:=K) (ad:=ad) (Q:=Q) rfl k
  refine⟨_,(ag (aF (i:=2) sc_Holder_forward.nd rfl (Or.inl rfl) (aP a9 (hr.mono (by decide)) rfl (aa (pv 1) (aa (gb aZ (pv 0) (hr.mono (by decide))) ah))))
   (ag (aF (i:=3) sc_Holder_forward.nd rfl (Or.inl rfl) (dO aL (pv 0) (hr.mono (by decide)) (aa (pv 2) ah)))
   (ag (aS (aW (pv 3) (fun _=>rfl)) (aj (ay (aN (aa (pv 3) ah)))) aC)
   (ag (aF (i:=4) sc_Holder_forward.nd rfl (Or.inl rfl) (aP eP (hr.mono (by decide)) rfl (aa (pv 2) ah)))
   (ag (cV PassesOwn.never rfl (bQ (aP ec (hr.mono (by decide)) rfl (aa (aV (pv 0) rfl) (aa (aV (pv 0) rfl) ah)))) (a7 (i:=5) sc_Holder_forward.nd rfl (Or.inl rfl) (hf:=Or.inl rfl))
    (aj (aF (i:=4) sc_Holder_forward.nd rfl (Or.inl rfl) (aP BR (hr.mono (by decide)) rfl (aa (pv 4) (aa (pv 5) ah))))))
   (aj (ay (aP bx (hr.mono (by decide)) rfl (aa (pv 4) ah))))))))),?_⟩
  refine⟨_,rfl,_,rfl,h,dx,_,rfl,a.obj,bJ (by decide +kernel),h,dx,vc,vr,vk,st,rfl,a,?_⟩
  refine(show gG K [v,.int (a8 st:Nat)] H _ E0 from bZ (ns,a8 st) ⟨_,rfl,hv,by show a8 st < 1000; have:=il a.ok; omega⟩ fun H1 r s1 h1=>?_)
  have h1:cf (rLstT (rFr K)) H1 r (BM.rdF ns (a8 st)):=h1
  have a1:=a.mono s1
  refine⟨_,rfl,h,dx,_,rfl,a1.obj,bJ (by decide +kernel),_,rfl,h,dx,vc,vr,vk,r,st,rfl,a1,?_⟩
  rw [qL h1]
  refine⟨_,rfl,_,rfl,nJ (fun hz=>⟨_,rfl,(by show 1≤sizeLine; decide),fun l hl=>?_⟩) fun hz=>?_⟩
  ·refine fin (s1.trans (Same.new hl)).n (a1.mono (Same.new hl)) ?_
   rw [xg,dt (fun w p=>Vagrag.tell (p.1.forward p.2 (ax st).n 0 w)) a.ok hz]
   exact⟨l,rfl,af⟩
  cases hq:BM.rdF ns (a8 st) with
  | none=>rw [hq,if_pos rfl] at hz; cases hz
  | some qs=>
   rw [hq,if_neg (by intro z; cases z)] at hz
   rw [hq] at h1
   obtain⟨c,n,x,l,hc,hrun,ht,hxl,hxs,hn1,hn40⟩:=dN a.ok hz
   obtain⟨c',p,dxr,ls,lw,lf,vt,hc',rfl,R⟩:=a1.run1 n x hrun
   rw [hc] at hc'
   have hc':=Option.some.inj hc'
   subst hc'
   have ok:=a.ok.chain c hc
   have hql:qs.length=c.parts:=by rw [BM.lC hq,gS hc]
   have hsm:=iU hsml hq
   rw [xg,iq (fun w p=>Vagrag.tell (p.1.forward p.2 (ax st).n 0 w)) a.ok hq hc hrun ht] at fin
   have fin:∀⦃H' r dx' vc' vr' vk'⦄,SameN H H'→HoldAt K ad h dx' vc' vr' vk' st H'→rLT H' r (cD (Vagrag.tell ((cX c).forward ((x::l.map (BM.aY c.outs)).map (List.map BM.aB)) (ax st).n 0 (qs.map BM.aB))))→Q r H':=fin
   have eb:(cX c).forward ((x::l.map (BM.aY c.outs)).map (List.map BM.aB)) n 0 (qs.map BM.aB)=(BM.jN (a6 c) c.outs l n 0 qs).map BM.aB:=BM.kO (c:=cX c) (jp ok) ht n 0 qs (by omega)
   rw [uo hrun,eb,BM.fW] at fin
   have fin:∀⦃H' r dx' vc' vr' vk'⦄,SameN H H'→HoldAt K ad h dx' vc' vr' vk' st H'→rLT H' r (cD (BM.dh (BM.jN (a6 c) c.outs l n 0 qs)))→Q r H':=fin
   refine⟨_,rfl,?_⟩
   refine(show jf K [r] H1 _ E0 from bZ qs ⟨_,rfl,rLstT.lst h1.2,hsm,by have:=ok.p4; omega⟩ fun H2 r2 s2 h2=>?_)
   have h2:dg K H2 r2 (qd qs):=h2
   have a2:=a1.mono s2
   have R2:=R.mono s2
   obtain⟨r0,rv0,rb0⟩:=oA ok hsm hql
   refine⟨_,rfl,h,_,dx,_,vc,rfl,a2.obj,T.aH,T.n_Holder_chain,HoldAt.f_chain,_,rfl,h,_,dx,_,.ref p,rfl,a2.obj,T.aH,T.n_Holder_run,HoldAt.f_run,?_⟩
   refine⟨c,n,x,l,vc,p,dxr,ls,lw,lf,vt,rfl,a2.ch hc,ok,R2,ht,hn1,by omega,fun H3 vt' ts sx R3 hts htok=>?_⟩
   have a3:=a2.tabs hc hrun rfl R2 sx R3
   have sn:=sx.n R2.obj
   have h3:=Jr (nLI (K:=K)) Lw _ _ _ _ sn h2
   obtain⟨htl,_⟩:=BM.dM ht
   obtain⟨at_,tus,rfl,hat,hpt⟩:=hts
   have htul:tus.length=n:=by rw [aJ hpt,htok.1]; exact htl
   refine⟨at_,rfl,⟨_,hat⟩,?_⟩
   refine eZ (K:=K) (a:=at_) (xs:=tus) (fun j σ H4=>∃(vrow:V) (v3 v5:Option V) (row:List Int×Int) (N b:Nat),σ=[some (.ref h),some v,some r,v3,some vrow,v5]∧Same H3 H4∧dg K H4 vrow row∧p7 c row N b∧Vagraa.bits N≤1000+30001*j∧b≤200+15062*j∧j≤n∧BM.jN (a6 c) c.outs l (n - j) j (BM.val row)=BM.jN (a6 c) c.outs l n 0 qs)
    ⟨r2,_,none,qd qs,pd qs,200,rfl,Same.refl _,h3,r0,by omega,by omega,Nat.zero_le _,by rw [rv0,Nat.sub_zero]⟩ (fun j σ H4 _ ⟨_,_,_,_,_,_,_,hs,_⟩=>hs.seq hat) ?_ ?_
   ·rintro j y σ H4 hy ⟨vrow,v3,v5,row,N,b,rfl,hs,hrow,hto,hNb,hbb,hjn,hforw⟩
    have hj:j < n:=by have:=(List.getElem?_eq_some_iff.mp hy).1; omega
    obtain⟨t,het,htr⟩:=bY hpt hy
    obtain⟨vs,hevs⟩:∃vs,l[j]?= some vs:=⟨_,List.getElem?_eq_getElem (by rw [htl]; omega)⟩
    obtain⟨M,htf,hMb⟩:=htok.2 _ t vs het hevs
    have htr4:=EE _ _ _ _ hs htr
    refine⟨_,rfl,_,rfl,?_⟩
    have tok:=FF (j:=j) ok hto (by omega) (by omega) htf hMb
    refine(show AW K [vrow,y] H4 _ E0 from bZ (row,t) ⟨_,_,rfl,hrow,htr4,tok⟩ fun H5 r5 s5 h5=>?_)
    have h5:dg K H5 r5 (pushed row t):=h5
    obtain⟨hto5,hval5⟩:=HR ok hto htf
    have hbm:=BM.e8 N M
    refine⟨_,_,_,pushed row t,N*M,b+15060+2,rfl,hs.trans s5,h5,hto5,by omega,by omega,by omega,?_⟩
    rw [hval5,←hforw]
    conv=>rhs; rw [show n - j=(n - (j+1))+1 by omega]
    show _=BM.jN (a6 c) c.outs l (n - (j+1)) (j+1) (BM.fT (a6 c) c.outs (l.getD j []) (BM.val row))
    have:l.getD j []=vs:=by rw [List.getD_eq_getElem?_getD,hevs]; rfl
    rw [this]
   ·rintro σ H4 ⟨vrow,v3,v5,row,N,b,rfl,hs,hrow,hto,hNb,hbb,hjn,hforw⟩
    rw [htul,Nat.sub_self] at hforw
    have hforw:BM.val row=BM.jN (a6 c) c.outs l n 0 qs:=hforw
    refine⟨_,rfl,?_⟩
    refine(show mj K [vrow] H4 _ E0 from bZ row ⟨_,rfl,hrow,hto.bd.pos,by rw [hto.len]; have:=ok.p4; omega⟩ fun H5 r5 s5 h5=>?_)
    have h5:rLT H5 r5 (cD (BM.dh (BM.val row))):=h5
    rw [hforw] at h5
    exact fin ((s1.trans s2).n.trans (sn.trans (hs.trans s5).n)) (a3.mono (hs.trans s5)) h5
noncomputable abbrev iA:Stmt:=bO (top 98) 12
theorem sc_Holder_play:aD ["self","slots","act_numbers","numbers","acts","refusal","weights"] ["self","slots","act_numbers","numbers"] (aw iA):=⟨rfl,rfl,rfl,by decide +kernel,rfl,by decide +kernel,by decide +kernel⟩
noncomputable def Cn (K:PySem.W.Frag):List V→Hp→Vagrag.Call→Prop:=fun as H call=>∃(m:Int) (v u:V) (ls ns:List Int),as=[.int m,v,u]∧rLI K H v ls∧ls.length≤100000∧rLI K H u ns∧Sml ns∧call=.play m ls ns
noncomputable def Cs (K:PySem.W.Frag):List V→Hp→Vagrag.Call→Prop:=fun as H call=>∃(m:Int) (u:V) (ns:List Int),as=[.int m,u]∧rLI K H u ns∧Sml ns∧call=.auto m ns
noncomputable def nt (s:Vagrag.State) (k:Nat) (a:List Vagrag.Act) (w:List Vagraa.Frac) (p:Vagrag.Chain×List (List Vagraa.Frac)):Except Int (List Int):=match Vagrag.play s.n k a with
 | .error _=>.error (-8)
 | .ok _=>Vagrag.tell (p.1.played s.n k s.start w a)
theorem C3 (s:Vagrag.State) (m:Int) (ls ns:List Int):s.asked (.play m ls ns)=if 1≤m∧m≤10 then(if qB (Vagrag.actsOf ls)=0 then(Vagrag.fracs ((s.chain.map fun c=>c.size).getD 0) ns >>= fun w=>s.here >>= fun p=>nt s m.toNat ((Vagrag.actsOf ls).getD []) w p) else .error (qB (Vagrag.actsOf ls))) else .error (-1):=by
 show(Vagrag.ranged m 1 10 >>= fun k=>Vagrag.acts ls >>= fun a=>Vagrag.fracs ((s.chain.map fun c=>c.size).getD 0) ns >>= fun w=>s.here >>= fun p=>nt s k a w p)=_
 by_cases h1:1≤m∧m≤10
 ·rw [if_pos h1,bA h1]
  show(Vagrag.acts ls >>= fun a=>Vagrag.fracs ((s.chain.map fun c=>c.size).getD 0) ns >>= fun w=>s.here >>= fun p=>nt s m.toNat a w p)=_
  rw [Ah]
  by_cases h3:qB (Vagrag.actsOf ls)=0
  ·rw [if_pos h3,if_pos h3]; rfl
  ·rw [if_neg h3,if_neg h3]; rfl
 ·rw [if_neg h1,bp h1]; rfl
theorem DM (s:Vagrag.State) (m:Int) (ns:List Int):s.asked (.auto m ns)=if 1≤m∧m≤10 then(Vagrag.fracs ((s.chain.map fun c=>c.size).getD 0) ns >>= fun w=>s.here >>= fun p=>Vagrag.tell (p.1.played s.n m.toNat s.start w (Vagrag.schedule s.n m.toNat))) else .error (-1):=by
 show(Vagrag.ranged m 1 10 >>= fun k=>Vagrag.fracs ((s.chain.map fun c=>c.size).getD 0) ns >>= fun w=>s.here >>= fun p=>Vagrag.tell (p.1.played s.n k s.start w (Vagrag.schedule s.n k)))=_
 by_cases h1:1≤m∧m≤10
 ·rw [if_pos h1,bA h1]; rfl
 ·rw [if_neg h1,bp h1]; rfl
theorem y6 {st:HSt} {c:Ch} {n m:Nat} {x qs:List Rat} {l:List (List Rat)} {acts:List Vagrag.Act} (ok:pK c) (hr:st.run=some (n,x)) (ht:BM.bn (a6 c) c.outs n 0 x=.ok l):
  cD (nt (ax st) m acts (qs.map BM.aB) (cX c,(x::l.map (BM.aY c.outs)).map (List.map BM.aB)))=(match Vagrag.play n m acts with | .error _=>[-8] | .ok _=>cD (BM.dh (BM.dc (a6 c) c.outs c.parts l n qs))):=by
 unfold nt
 rw [uo hr,rk hr]
 cases hp:Vagrag.play n m acts with
 | error e=>rfl
 | ok g=>
  show cD (Vagrag.tell ((cX c).played n m (x.map BM.aB) (qs.map BM.aB) acts))=_
  rw [BM.mB (c:=cX c) (jp ok) ht hp,BM.fW]
  rfl
theorem Id {f:Addr} {fd:FuncData} (T:Tx P K mg base ad) (F:Fun K "play" "Holder.play" iA f fd) (aX:Fb P w K mg base 40 "within" ["number","low","high"] cO) (ee:Fb P w K mg base 41 "read_acts" ["numbers"] (ng K)) (cA:Fb P w K mg base 40 "acts_refusal" ["acts"] (A1 K))
  (a9:Fb P w K mg base 42 "read_fractions" ["numbers","count"] (gG K)) (aZ:Mb P w K mg base (ad.cls "Holder") 40 "count_parts" ["self"] (ni K ad)) (aL:Mb P w K mg base (ad.cls "Holder") 41 "fractions_refusal" ["self","fractions"] (rq K ad)) (bC:Mb P w K mg base (ad.cls "Holder") 48 "turn_as_told" ["self","acts","slots","weights"] (JV K ad)):
  FnOk P w K mg base CX0 49 f fd ["self","slots","act_numbers","numbers"] (cG K ad (Cn K)):=by
 refine F.ok sc_Holder_play (fun vs H Q E h=>?_) (fun cdv A outer s H vs Q E hr h=>?_)
 ·obtain⟨_,_,_,_,_,_,_,_,rfl,_,⟨_,_,_,_,_,rfl,_⟩,_⟩:=h; rfl
 ·obtain⟨h,dx,vc,vr,vk,st,as,call,rfl,a,⟨m,v,u,las,ns,rfl,hv,hll,hu,hsml,rfl⟩,k⟩:=h
  have fin:=e7 (K:=K) (ad:=ad) (Q:=Q) rfl k
  have e0:=C3 (ax st) m las ns
  have out1:∀(z:Int) (H1:Hp),Same H H1→(ax st).asked (.play m las ns)=.error z→∀l,H1 l=none→Q (.ref l) (upd H1 l (.lst [.int z])):=fun z H1 s1 e l hl=>fin (s1.trans (Same.new hl)).n (a.mono (s1.trans (Same.new hl))) (by rw [e]; exact⟨l,rfl,af⟩)
  refine⟨_,(ag (aS (cq (aW (aP aX (hr.mono (by decide)) rfl (aa (pv 1) (aa am (aa (aO rfl T.bo) ah)))) (fun _=>rfl))) (aj (ay (aN (aa (aO rfl T.bf) ah)))) aC)
   (ag (aF (i:=4) sc_Holder_play.nd rfl (Or.inl rfl) (aP ee (hr.mono (by decide)) rfl (aa (pv 2) ah)))
   (ag (aF (i:=5) sc_Holder_play.nd rfl (Or.inl rfl) (aP cA (hr.mono (by decide)) rfl (aa (pv 4) ah)))
   (ag (aS (aW (pv 5) (fun _=>rfl)) (aj (ay (aN (aa (pv 5) ah)))) aC)
   (ag (aF (i:=6) sc_Holder_play.nd rfl (Or.inl rfl) (aP a9 (hr.mono (by decide)) rfl (aa (pv 3) (aa (gb aZ (pv 0) (hr.mono (by decide))) ah))))
   (ag (aF (i:=5) sc_Holder_play.nd rfl (Or.inl rfl) (dO aL (pv 0) (hr.mono (by decide)) (aa (pv 6) ah)))
   (ag (aS (aW (pv 5) (fun _=>rfl)) (aj (ay (aN (aa (pv 5) ah)))) aC)
   (aj (ay (dO bC (pv 0) (hr.mono (by decide)) (aa (pv 4) (aa (pv 1) (aa (pv 6) ah))))))))))))),?_⟩
  refine⟨_,rfl,_,_,_,rfl,_,rfl,dQ (fun h1=>⟨(by show 1≤sizeLine; decide),out1 _ _ (Same.refl _) (by rw [e0,if_neg h1])⟩) fun hm=>?_⟩
  rw [if_pos hm] at e0
  refine⟨_,rfl,?_⟩
  refine(show ng K [v] H _ E0 from bZ las ⟨_,rfl,hv,hll⟩ fun H1 r1 s1 h1=>?_)
  have h1:cf (pO K) H1 r1 (Vagrag.actsOf las):=h1
  refine⟨_,rfl,r1,_,rfl,h1,?_⟩
  refine⟨_,rfl,_,rfl,nJ (fun hz=>⟨_,rfl,(by show 1≤sizeLine; decide),out1 _ _ s1 (by rw [e0,if_neg hz])⟩) fun hz=>?_⟩
  rw [if_pos hz] at e0
  cases hao:Vagrag.actsOf las with
  | none=>rw [hao] at hz; cases hz
  | some acts=>
   rw [hao] at h1 hz e0
   have hal:acts.length≤2000:=by
    have hz:(if 2000 < acts.length then(-7:Int) else 0)=0:=hz
    split at hz
    ·cases hz
    ·omega
   obtain⟨hne,hacts⟩:=h1
   have a1:=a.mono s1
   refine⟨_,rfl,_,rfl,h,dx,_,rfl,a1.obj,bJ (by decide +kernel),h,dx,vc,vr,vk,st,rfl,a1,?_⟩
   refine(show gG K [u,.int (a8 st:Nat)] H1 _ E0 from bZ (ns,a8 st) ⟨_,rfl,mLI _ _ _ _ s1 hu,by show a8 st < 1000; have:=il a.ok; omega⟩ fun H2 r2 s2 h2=>?_)
   have h2:cf (rLstT (rFr K)) H2 r2 (BM.rdF ns (a8 st)):=h2
   have a2:=a1.mono s2
   refine⟨_,rfl,h,dx,_,rfl,a2.obj,bJ (by decide +kernel),_,rfl,h,dx,vc,vr,vk,r2,st,rfl,a2,?_⟩
   rw [qL h2]
   refine⟨_,rfl,_,rfl,nJ (fun hz=>⟨_,rfl,(by show 1≤sizeLine; decide),out1 _ _ (s1.trans s2) ?_⟩) fun hz=>?_⟩
   ·rw [e0,dt (fun w p=>nt (ax st) m.toNat ((some acts).getD []) w p) a.ok hz]
   cases hq:BM.rdF ns (a8 st) with
   | none=>rw [hq,if_pos rfl] at hz; cases hz
   | some qs=>
    rw [hq,if_neg (by intro z; cases z)] at hz
    rw [hq] at h2
    obtain⟨c,n,x,l,hc,hrun,ht,hxl,hxs,hn1,hn40⟩:=dN a.ok hz
    have ok:=a.ok.chain c hc
    rw [iq (fun w p=>nt (ax st) m.toNat ((some acts).getD []) w p) a.ok hq hc hrun ht] at e0
    obtain⟨mm,rfl,e1,b1,b2⟩:=cW hm (by decide)
    rw [e1] at e0
    have e2:cD ((ax st).asked (.play (mm:Int) las ns))=(match Vagrag.play n mm acts with | .error _=>[-8] | .ok _=>cD (BM.dh (BM.dc (a6 c) c.outs c.parts l n qs))):=by
     rw [e0]
     exact y6 ok hrun ht
    rw [e2] at fin
    refine⟨_,rfl,h,dx,_,rfl,a2.obj,bJ (by decide +kernel),_,rfl,_,rfl,_,rfl,?_⟩
    refine⟨h,dx,vc,vr,vk,r1,r2,st,c,n,mm,x,l,qs,acts,rfl,a2,hc,hrun,ht,gU mTI _ _ _ _ s2 hacts,by omega,by omega,by omega,rLstT.lst h2.2,iU hsml hq,?_,fun H3 r3 sn3 a3 h3=>fin ((s1.trans s2).n.trans sn3) a3 h3⟩
    rw [BM.lC hq,gS hc]
noncomputable abbrev iC:Stmt:=bO (top 98) 13
theorem sc_Holder_auto:aD ["self","slots","numbers","weights","refusal"] ["self","slots","numbers"] (aw iC):=⟨rfl,rfl,rfl,by decide +kernel,rfl,by decide +kernel,by decide +kernel⟩
theorem Ih {f:Addr} {fd:FuncData} (T:Tx P K mg base ad) (F:Fun K "auto" "Holder.auto" iC f fd) (aX:Fb P w K mg base 40 "within" ["number","low","high"] cO) (cv:Fb P w K mg base 42 "told_schedule" ["steps","slots","columns"] (m9 K)) (aI:Mb P w K mg base (ad.cls "Holder") 43 "all_columns" ["self"] (mn K ad))
  (a9:Fb P w K mg base 42 "read_fractions" ["numbers","count"] (gG K)) (aZ:Mb P w K mg base (ad.cls "Holder") 40 "count_parts" ["self"] (ni K ad)) (aL:Mb P w K mg base (ad.cls "Holder") 41 "fractions_refusal" ["self","fractions"] (rq K ad)) (bC:Mb P w K mg base (ad.cls "Holder") 48 "turn_as_told" ["self","acts","slots","weights"] (JV K ad)):
  FnOk P w K mg base CX0 49 f fd ["self","slots","numbers"] (cG K ad (Cs K)):=by
 refine F.ok sc_Holder_auto (fun vs H Q E h=>?_) (fun cdv A outer s H vs Q E hr h=>?_)
 ·obtain⟨_,_,_,_,_,_,_,_,rfl,_,⟨_,_,_,rfl,_⟩,_⟩:=h; rfl
 ·obtain⟨h,dx,vc,vr,vk,st,as,call,rfl,a,⟨m,u,ns,rfl,hu,hsml,rfl⟩,k⟩:=h
  have fin:=e7 (K:=K) (ad:=ad) (Q:=Q) rfl k
  have e0:=DM (ax st) m ns
  have out1:∀(z:Int) (H1:Hp),Same H H1→(ax st).asked (.auto m ns)=.error z→∀l,H1 l=none→Q (.ref l) (upd H1 l (.lst [.int z])):=fun z H1 s1 e l hl=>fin (s1.trans (Same.new hl)).n (a.mono (s1.trans (Same.new hl))) (by rw [e]; exact⟨l,rfl,af⟩)
  refine⟨_,(ag (aS (cq (aW (aP aX (hr.mono (by decide)) rfl (aa (pv 1) (aa am (aa (aO rfl T.bo) ah)))) (fun _=>rfl))) (aj (ay (aN (aa (aO rfl T.bf) ah)))) aC)
   (ag (aF (i:=3) sc_Holder_auto.nd rfl (Or.inl rfl) (aP a9 (hr.mono (by decide)) rfl (aa (pv 2) (aa (gb aZ (pv 0) (hr.mono (by decide))) ah))))
   (ag (aF (i:=4) sc_Holder_auto.nd rfl (Or.inl rfl) (dO aL (pv 0) (hr.mono (by decide)) (aa (pv 3) ah)))
   (ag (aS (aW (pv 4) (fun _=>rfl)) (aj (ay (aN (aa (pv 4) ah)))) aC)
   (aj (ay (dO bC (pv 0) (hr.mono (by decide)) (aa (aP cv (hr.mono (by decide)) rfl (aa (aV (aV (pv 0) rfl) rfl) (aa (pv 1) (aa (gb aI (pv 0) (hr.mono (by decide))) ah)))) (aa (pv 1) (aa (pv 3) ah)))))))))),?_⟩
  refine⟨_,rfl,_,_,_,rfl,_,rfl,dQ (fun h1=>⟨(by show 1≤sizeLine; decide),out1 _ _ (Same.refl _) (by rw [e0,if_neg h1])⟩) fun hm=>?_⟩
  rw [if_pos hm] at e0
  refine⟨_,rfl,_,rfl,h,dx,_,rfl,a.obj,bJ (by decide +kernel),h,dx,vc,vr,vk,st,rfl,a,?_⟩
  refine(show gG K [u,.int (a8 st:Nat)] H _ E0 from bZ (ns,a8 st) ⟨_,rfl,hu,by show a8 st < 1000; have:=il a.ok; omega⟩ fun H2 r2 s2 h2=>?_)
  have h2:cf (rLstT (rFr K)) H2 r2 (BM.rdF ns (a8 st)):=h2
  have a2:=a.mono s2
  refine⟨_,rfl,h,dx,_,rfl,a2.obj,bJ (by decide +kernel),_,rfl,h,dx,vc,vr,vk,r2,st,rfl,a2,?_⟩
  rw [qL h2]
  refine⟨_,rfl,_,rfl,nJ (fun hz=>⟨_,rfl,(by show 1≤sizeLine; decide),out1 _ _ s2 ?_⟩) fun hz=>?_⟩
  ·rw [e0,dt (fun w p=>Vagrag.tell (p.1.played (ax st).n m.toNat (ax st).start w (Vagrag.schedule (ax st).n m.toNat))) a.ok hz]
  cases hq:BM.rdF ns (a8 st) with
  | none=>rw [hq,if_pos rfl] at hz; cases hz
  | some qs=>
   rw [hq,if_neg (by intro z; cases z)] at hz
   rw [hq] at h2
   obtain⟨c,n,x,l,hc,hrun,ht,hxl,hxs,hn1,hn40⟩:=dN a.ok hz
   obtain⟨c',p,dxr,ls,lw,lf,vt,hc',rfl,R⟩:=a2.run1 n x hrun
   rw [hc] at hc'
   have hc':=Option.some.inj hc'
   subst hc'
   have ok:=a.ok.chain c hc
   rw [iq (fun w p=>Vagrag.tell (p.1.played (ax st).n m.toNat (ax st).start w (Vagrag.schedule (ax st).n m.toNat))) a.ok hq hc hrun ht] at e0
   obtain⟨mm,rfl,e1,b1,b2⟩:=cW hm (by decide)
   rw [e1,uo hrun,rk hrun] at e0
   obtain⟨g,hg⟩:=BM.pM (n:=n) (c:=mm) (by omega)
   have e2:cD ((ax st).asked (.auto (mm:Int) ns))=cD (BM.dh (BM.dc (a6 c) c.outs c.parts l n qs)):=by
    rw [e0]
    show cD (Vagrag.tell ((cX c).played n mm (x.map BM.aB) (qs.map BM.aB) (Vagrag.schedule n mm)))=_
    rw [BM.mB (c:=cX c) (jp ok) ht hg,BM.fW]
    rfl
   rw [e2] at fin
   refine⟨_,rfl,h,dx,_,rfl,a2.obj,bJ (by decide +kernel),_,rfl,h,_,dx,_,.ref p,rfl,a2.obj,T.aH,T.n_Holder_run,HoldAt.f_run,p,_,dxr,_,.int (n:Int),rfl,R.obj,T.ci,T.n_Run_steps,cF kj (i:=0) rfl rfl,_,rfl,_,rfl,h,dx,_,rfl,a2.obj,bJ (by decide +kernel),h,dx,vc,.ref p,vk,st,rfl,a2,fun H3 vk' sx a3 hk=>?_⟩
   refine(show m9 K [.int (n:Int),.int (mm:Int),vk'] H3 _ E0 from bZ (n,mm) ⟨_,rfl,hk,hn1,(by show n≤60; omega),(by show 1≤mm; omega),(by show mm≤20; omega)⟩ fun H4 r4 s4 h4=>?_)
   have h4:rActsT K H4 r4 (Vagrag.schedule n mm):=h4
   have hsl:=BM.gq (n:=n) (c:=mm) hn1 (by omega)
   refine⟨_,rfl,_,rfl,?_⟩
   have sn:=sx.n a2.obj
   refine⟨h,dx,vc,.ref p,vk',r4,r2,st,c,n,mm,x,l,qs,Vagrag.schedule n mm,rfl,a3.mono s4,hc,hrun,ht,h4.acts,by omega,by omega,by omega,gU mFr _ _ _ _ s4 (mG nFr _ _ _ _ sn (rLstT.lst h2.2)),iU hsml hq,?_,fun H5 r5 sn5 a5 h5=>fin (s2.n.trans (sn.trans (s4.n.trans sn5))) a5 ?_⟩
   ·rw [BM.lC hq,gS hc]
   ·rw [hg] at h5
    exact h5
end
end B
namespace B
open PySem PySem.Spec PyProof.Rows L2
open Vagrag (Game actTold)
noncomputable def uX (n:Nat) (c:VagraLine.Code) (outs:List Int):Except Int (Vagrag.State×List Int):=
 if 30 < c.length then .error (-7) else if VagraLine.well (n+1) c=true then(if outs.length=n∧(outs.all fun i=>decide (0≤i) && decide (i < (c.length:Int)))=true then .ok ({chain:=some ⟨n,c,outs.map Int.toNat⟩,start:=[],n:=0},[(c.length:Int)]) else .error (-2)) else .error (-3)
theorem CM (s:Vagrag.State) (k:Int) (lines outs:List Int):Vagrag.out s (.chain k lines outs)=if 1≤k∧k≤4 then(match BM.bI lines with | none=>.error (-2) | some r=>uX k.toNat (r.map BM.aU) outs) else .error (-1):=by
 show(Vagrag.ranged k 1 4 >>= fun n=>match VagraLine.codeOf lines.length lines with
  | none=>Except.error (-2)
  | some c=>Vagrag.refuseIf (decide (30 < c.length)) (-7) >>= fun _=>Vagrag.refuseIf (!VagraLine.well (n+1) c) (-3) >>= fun _=>Vagrag.linesOf c n outs >>= fun o=>Except.ok (({chain:=some ⟨n,c,o⟩,start:=[],n:=0}:Vagrag.State),[(c.length:Int)]))=_
 by_cases h1:1≤k∧k≤4
 ·rw [if_pos h1,bA h1,BM.Cf lines.length lines (Nat.le_refl _)]
  cases BM.bI lines with
  | none=>rfl
  | some r=>
   show(Vagrag.refuseIf (decide (30 < (r.map BM.aU).length)) (-7) >>= fun _=>Vagrag.refuseIf (!VagraLine.well (k.toNat+1) (r.map BM.aU)) (-3) >>= fun _=>Vagrag.linesOf (r.map BM.aU) k.toNat outs >>= fun o=>Except.ok (({chain:=some ⟨k.toNat,r.map BM.aU,o⟩,start:=[],n:=0}:Vagrag.State),[((r.map BM.aU).length:Int)]))=uX k.toNat (r.map BM.aU) outs
   generalize r.map BM.aU=c
   unfold uX Vagrag.refuseIf Vagrag.linesOf
   by_cases h2:30 < c.length
   ·rw [if_pos h2,decide_eq_true h2,if_pos rfl]; rfl
   rw [if_neg h2,decide_eq_false h2,if_neg Bool.false_ne_true]
   show((if (!VagraLine.well (k.toNat+1) c)=true then Except.error (-3) else Except.ok ()) >>= fun _=>(if outs.length=k.toNat∧(outs.all fun i=>decide (0≤i) && decide (i < (c.length:Int)))=true then Except.ok (outs.map Int.toNat) else Except.error (-2)) >>= fun o=>Except.ok (({chain:=some ⟨k.toNat,c,o⟩,start:=[],n:=0}:Vagrag.State),[(c.length:Int)]))=_
   cases hw:VagraLine.well (k.toNat+1) c with
   | false=>rfl
   | true=>
    show((if outs.length=k.toNat∧(outs.all fun i=>decide (0≤i) && decide (i < (c.length:Int)))=true then Except.ok (outs.map Int.toNat) else Except.error (-2)) >>= fun o=>Except.ok (({chain:=some ⟨k.toNat,c,o⟩,start:=[],n:=0}:Vagrag.State),[(c.length:Int)]))=_
    rw [if_pos rfl]
    by_cases h3:outs.length=k.toNat∧(outs.all fun i=>decide (0≤i) && decide (i < (c.length:Int)))=true
    ·rw [if_pos h3,if_pos h3]; rfl
    ·rw [if_neg h3,if_neg h3]; rfl
 ·rw [if_neg h1,bp h1]; rfl
theorem FV {st:HSt} (n:Int) (ns:List Int):Vagrag.out (ax st) (.run n ns)=if 1≤n∧n≤40 then(match st.chain with
  | none=>.error (-4)
  | some c=>match BM.rdF ns c.parts with
   | none=>.error (-2)
   | some qs=>.ok ({ax st with start:=qs.map BM.aB,n:=n.toNat},Vagrag.ranTold ((cX c).states n.toNat 0 (qs.map BM.aB)))) else .error (-1):=by
 show(Vagrag.ranged n 1 40 >>= fun n=>match (ax st).chain with
  | none=>Except.error (-4)
  | some c=>Vagrag.fracs c.size ns >>= fun x=>Except.ok (({ax st with start:=x,n:=n}:Vagrag.State),Vagrag.ranTold (c.states n 0 x)))=_
 by_cases h1:1≤n∧n≤40
 ·rw [if_pos h1,bA h1]
  cases hc:st.chain with
  | none=>
   have:(ax st).chain=none:=by unfold ax; rw [hc]; rfl
   rw [this]; rfl
  | some c=>
   have:(ax st).chain=some (cX c):=by unfold ax; rw [hc]; rfl
   rw [this]
   show(Vagrag.fracs c.parts ns >>= fun x=>Except.ok (({ax st with start:=x,n:=n.toNat}:Vagrag.State),Vagrag.ranTold ((cX c).states n.toNat 0 x)))=_
   rw [BM.o4]
   show _=(match BM.rdF ns c.parts with | none=>Except.error (-2) | some qs=>Except.ok (({ax st with start:=qs.map BM.aB,n:=n.toNat}:Vagrag.State),Vagrag.ranTold ((cX c).states n.toNat 0 (qs.map BM.aB))))
   cases BM.rdF ns c.parts <;> rfl
 ·rw [if_neg h1,bp h1]; rfl
section
variable {P:Program} {w:World} {K:PySem.W.Frag} {mg:Str→Option Value} {base:Heap} {ad:Ad}
noncomputable abbrev cy:Stmt:=bO (top 98) 1
theorem sc_Holder_tell_chain:aD ["self","parts","numbers","outs","lines","out"] ["self","parts","numbers","outs"] (aw cy):=⟨rfl,rfl,rfl,by decide +kernel,rfl,by decide +kernel,by decide +kernel⟩
noncomputable def xI (K:PySem.W.Frag):List V→Hp→Vagrag.Call→Prop:=fun as H call=>∃(m:Int) (v u:V) (ls os:List Int),as=[.int m,v,u]∧rLI K H v ls∧ls.length≤1000∧rLI K H u os∧os.length≤1000∧call=.chain m ls os
theorem uf {f:Addr} {fd:FuncData} (T:Tx P K mg base ad) (F:Fun K "tell_chain" "Holder.tell_chain" cy f fd) (aX:Fb P w K mg base 40 "within" ["number","low","high"] cO) (ju:Fb P w K mg base 41 "read_lines" ["numbers"] (wd K)) (js:Fb P w K mg base 40 "uses_known" ["lines","inputs"] (wj K)) (w8:Cb P w K mg base (ad.cls "Chain") 40 "Chain" ["self","parts","lines","outs"] (yI (ad.cls "Chain"))):
  FnOk P w K mg base CX0 42 f fd ["self","parts","numbers","outs"] (cG K ad (xI K)):=by
 refine F.ok sc_Holder_tell_chain (fun vs H Q E h=>?_) (fun cdv A outer s H vs Q E hr h=>?_)
 ·obtain⟨_,_,_,_,_,_,_,_,rfl,_,⟨_,_,_,_,_,rfl,_⟩,_⟩:=h; rfl
 ·obtain⟨h,dx,vc,vr,vk,st,as,call,rfl,a,⟨m,v,u,las,os,rfl,hv,hll,⟨au,rfl,hau⟩,hol,rfl⟩,k⟩:=h
  have e0:=CM (ax st) m las os
  have out1:∀(z:Int) (H1:Hp),Same H H1→Vagrag.out (ax st) (.chain m las os)=.error z→∀l,H1 l=none→Q (.ref l) (upd H1 l (.lst [.int z])):=fun z H1 s1 e l hl=>
   k _ _ dx vc vr vk st (s1.trans (Same.new hl)).n (a.mono (s1.trans (Same.new hl))) (j8 e).1.symm (by rw [(j8 e).2]; exact⟨l,rfl,af⟩)
  refine⟨_,(ag (aS (cq (aW (aP aX (hr.mono (by decide)) rfl (aa (pv 1) (aa am (aa (aO rfl T.gA) ah)))) (fun _=>rfl))) (aj (ay (aN (aa (aO rfl T.bf) ah)))) aC)
   (ag (aF (i:=4) sc_Holder_tell_chain.nd rfl (Or.inr rfl) (aP ju (hr.mono (by decide)) rfl (aa (pv 2) ah)))
   (ag (aS (aE eM (pv 4) bM (aK _)) (aj (ay (aN (aa (aO rfl T.dr) ah)))) aC)
   (ag (aS (aE vm (ba (iX (K:=K) rfl) rfl T.du PySem.boot_len (aa (pv 4) ah)) (aO rfl T.gB) (aK _)) (aj (ay (aN (aa (aO rfl T.g6) ah)))) aC)
   (ag (aS (cq (aW (aP js (hr.mono (by decide)) rfl (aa (pv 4) (aa (aR cu (pv 1) am) ah))) (fun _=>rfl))) (aj (ay (aN (aa (aO rfl T.eU) ah)))) aC)
   (ag (aS (PW.pt (ko (aE Ga (ba (iX (K:=K) rfl) rfl T.du PySem.boot_len (aa (pv 3) ah)) (pv 1) (aK _)) (gR (cq (aW (ba (G1 rfl) rfl T.Af z8 (aa (eK (own:=[("out",5)]) rfl sc_Holder_tell_chain.nd (bQ (pv 3)) (bH (N:=["self","parts","numbers","outs","lines","out"]) (sc:=aw cy) (by decide +kernel)) (fun _ _ _ _ _=>(a7 (i:=5) sc_Holder_tell_chain.nd rfl (Or.inl rfl) (hf:=Or.inr rfl))) (fun _ _ _ _ _=>cn) (fun _ _ _ _ _=>(aP aX (hr.mono (by decide)) rfl (aa (pv 5) (aa am (aa (aR fE (ba (iX (K:=K) rfl) rfl T.du PySem.boot_len (aa (pv 4) ah)) am) ah)))))) ah)) (fun _=>rfl)))))) (aj (ay (aN (aa (aO rfl T.dr) ah)))) aC)
   (ag (b5 (pv 0) (C5 w8 (hr.mono (by decide)) rfl (aa (pv 1) (aa (pv 4) (aa (pv 3) ah)))) rfl)
   (ag (b5 (pv 0) bM rfl)
   (aj (ay (aN (aa (ba (iX (K:=K) rfl) rfl T.du PySem.boot_len (aa (pv 4) ah)) ah)))))))))))),?_⟩
  refine⟨_,rfl,_,_,_,rfl,_,rfl,dQ (fun h1=>⟨(by show 1≤sizeLine; decide),out1 _ _ (Same.refl _) (by rw [e0,if_neg h1])⟩) fun hm=>?_⟩
  rw [if_pos hm] at e0
  obtain⟨mm,rfl,e1,b1,b2⟩:=cW hm (by decide)
  rw [e1] at e0
  refine⟨_,rfl,?_⟩
  refine(show wd K [v] H _ E0 from bZ las ⟨_,rfl,hv,hll⟩ fun H1 r1 s1 h1=>?_)
  have h1:cf (b0 K (rTI K)) H1 r1 (BM.bI las):=h1
  cases hraw:BM.bI las with
  | none=>
   rw [hraw] at h1 e0
   have h1:r1=.non:=h1
   subst h1
   exact⟨_,rfl,rfl,_,rfl,cp rfl ⟨(by show 1≤sizeLine; decide),out1 _ _ s1 e0⟩⟩
  | some raws=>
   rw [hraw] at h1 e0
   obtain⟨hne,al,us,rfl,hal,hp⟩:=h1
   have hp:Paired (rTI K H1) us raws:=hp
   have hul:=aJ hp
   obtain⟨hwf,hrl⟩:=BM.u6 las.length las raws (Nat.le_refl _) hraw
   have e0:Vagrag.out (ax st) (.chain (mm:Int) las os)=uX mm (raws.map BM.aU) os:=e0
   unfold uX at e0
   rw [List.length_map] at e0
   refine⟨_,rfl,rfl,_,rfl,aM hne ?_⟩
   refine⟨_,rfl,al,_,rfl,.inl hal,_,_,rfl,rfl,_,rfl,dH (fun h2=>⟨(by show 1≤sizeLine; decide),out1 _ _ s1 (by rw [e0,if_pos (by omega)])⟩) fun h2=>?_⟩
   rw [if_neg (by omega)] at e0
   refine⟨_,rfl,_,rfl,_,_,rfl,rfl,?_⟩
   refine(show wj K [.ref al,.int ((mm:Int)+1)] H1 _ E0 from bZ (raws,mm+1) ⟨_,rfl,⟨al,us,rfl,hal,hp⟩,hwf⟩ fun H2 r2 s2 h2'=>?_)
   obtain⟨bk,rfl,hbk⟩:=h2'
   have hbk:bk=true↔BM.Known (mm+1) 0 raws:=hbk
   have hwell:VagraLine.well (mm+1) (raws.map BM.aU)=bk:=by
    have:=BM.qX (inputs:=mm+1) raws 0 hwf
    cases bk with
    | true=>exact this.mpr (hbk.mp rfl)
    | false=>
     cases q:VagraLine.well (mm+1) (raws.map BM.aU) with
     | false=>rfl
     | true=>exact absurd (hbk.mpr (this.mp q)) Bool.false_ne_true
   rw [hwell] at e0
   have s12:=s1.trans s2
   refine⟨bk,rfl,?_⟩
   cases bk with
   | false=>exact gy ⟨(by show 1≤sizeLine; decide),out1 _ _ s12 (by rw [e0,if_neg Bool.false_ne_true])⟩
   | true=>
    rw [if_pos rfl] at e0
    have hkn:=hbk.mp rfl
    refine jq ?_
    have hau2:=s12.seq hau
    have hal2:=s2.seq hal
    refine⟨_,rfl,au,_,rfl,.inl hau2,_,rfl,rfl,_,rfl,dQ (fun h3=>gy ⟨(by show 1≤sizeLine; decide),out1 _ _ s12 ?_⟩) fun h3=>?_⟩
    ·rw [e0,if_neg]
     intro z
     refine h3 ?_
     show V.int ((os.map V.int).length:Nat)=V.int (mm:Int)
     rw [List.length_map,z.1]
    have hosl:os.length=mm:=by
     have h3:V.int ((os.map V.int).length:Nat)=V.int (mm:Int):=h3
     injection h3 with h3
     rw [List.length_map] at h3
     omega
    refine⟨_,rfl,au,rfl,⟨_,hau2⟩,fun D hD=>?_⟩
    have hD:H2 D=none:=hD
    refine dD (K:=K) (a:=au) (xs:=os.map V.int) (fun i H3=>Same H2 H3∧H3 D=some (.lst (((os.take i).map fun z=>decide (0≤z∧z≤(us.length:Int) - 1)).map V.bl))) ⟨Same.new hD,af⟩ (fun i H3 _ ⟨s3,_⟩=>s3.seq hau2) ?_ ?_
    ·rintro i x H3 hx ⟨s3,hv3⟩
     obtain⟨o,ho,rfl⟩:=dE hx
     refine⟨rfl,_,rfl,_,rfl,al,_,rfl,.inl (s3.seq hal2),_,_,rfl,rfl,_,_,_,rfl,_,hv3,?_,s3.upd1 hD,?_⟩
     ·have:=(List.getElem?_eq_some_iff.mp ho).1
      rw [List.length_map,List.length_map,List.length_take]; exact bc (by omega)
     ·rw [af,lx ho,List.map_append]
      rfl
    ·rintro H3 ⟨s3,hv3⟩
     rw [List.length_map,List.take_length] at hv3
     refine⟨D,_,rfl,SqL.of hv3,_,rfl,?_⟩
     have eall:((os.map fun z=>decide (0≤z∧z≤(us.length:Int) - 1)).all id)=(os.all fun i=>decide (0≤i) && decide (i < (raws.length:Int))):=by
      rw [List.all_map]
      congr 1
      funext z
      show decide (0≤z∧z≤(us.length:Int) - 1)=_
      rw [Bool.decide_and,hul]
      congr 1
      exact decide_eq_decide.mpr (by omega)
     rw [eall]
     have s03:=s12.trans s3
     cases hall:(os.all fun i=>decide (0≤i) && decide (i < (raws.length:Int))) with
     | false=>
      refine gy ⟨(by show 1≤sizeLine; decide),out1 _ _ s03 ?_⟩
      rw [e0,if_neg]
      intro z
      rw [hall] at z
      cases z.2
     | true=>
      rw [hall,if_pos ⟨hosl,rfl⟩] at e0
      refine jq ?_
      have hos:∀z∈os,0≤z∧z < (raws.length:Int):=fun z hz=>by
       have:=List.all_eq_true.mp hall z hz
       rw [Bool.and_eq_true] at this
       exact⟨of_decide_eq_true this.1,of_decide_eq_true this.2⟩
      let c:Ch:=⟨mm,raws,os.map Int.toNat⟩
      have okc:pK c:=⟨by show 1≤mm; omega,by show mm≤4; omega,hwf,hkn,by show raws.length≤30; omega,by show(os.map Int.toNat).length=mm; rw [List.length_map]; exact hosl,fun o ho=>by
       obtain⟨z,hz,e⟩:=List.mem_map.mp ho
       have:=hos z hz
       show o < raws.length
       omega⟩
      have eouts:jQ c=os:=by
       show((os.map Int.toNat).map fun (n:Nat)=>(n:Int))=os
       rw [List.map_map]
       conv=>rhs; rw [←List.map_id os]
       refine List.map_congr_left fun z hz=>?_
       have:=hos z hz
       show((z.toNat:Nat):Int)=z
       omega
      refine⟨_,rfl,_,rfl,_,rfl,fun pc dxc npc ndxc nx=>?_⟩
      have npc:H3 pc=none:=npc
      have ndxc:H3 dxc=none:=ndxc
      refine⟨pc,dxc,_,_,_,rfl,af,fun H4 e4 sx4=>⟨rfl,?_⟩⟩
      have s4:Same H3 H4:=fun b o e=>sx4 b o (by rw [aq (az e npc),aq (az e ndxc)]; exact e) (az e npc)
      have s04:=s03.trans s4
      have a4:=a.mono s04
      refine⟨_,rfl,h,_,dx,_,rfl,a4.obj,T.aH,T.n_Holder_chain,t7 (by decide),?_⟩
      rw [qV pW (i:=0) rfl rfl]
      refine⟨_,rfl,h,_,dx,_,rfl,af,T.aH,T.n_Holder_run,t7 (by decide),?_⟩
      rw [qV pW (i:=1) rfl rfl]
      have hpch:pc≠h:=fun z=>by rw [z] at npc; rw [s03 _ _ a.obj] at npc; cases npc
      obtain⟨H5,hH5⟩:∃H5,H5=upd (upd H4 h (.ins (ad.cls "Holder") dx (holdK.zip ([vc,vr,vk].set 0 (.ref pc))))) h (.ins (ad.cls "Holder") dx (holdK.zip (([vc,vr,vk].set 0 (.ref pc)).set 1 .non))):=⟨_,rfl⟩
      rw [←hH5]
      have sx5:SameX h H4 H5:=fun b o e hb=>by rw [hH5,aq hb,aq hb]; exact e
      have sn5:=sx5.n a4.obj
      have hobj5:H5 h=some (.ins (ad.cls "Holder") dx (holdK.zip [.ref pc,.non,vk])):=by rw [hH5]; exact af
      refine⟨_,rfl,al,_,rfl,.inl (sn5.seq (s4.seq (s3.seq hal2))),(by show 1≤sizeLine; decide),fun l hl=>?_⟩
      have s6:=Same.new (o:=.lst [.int (us.length:Nat)]) hl
      have hch:rChain K (ad.cls "Chain") H4 (.ref pc) c:=⟨pc,dxc,.ref al,.ref au,rfl,e4,⟨al,us,rfl,s4.seq (s3.seq hal2),aT mTI ((s2.trans s3).trans s4) hp⟩,⟨au,rfl,by rw [eouts]; exact s4.seq (s3.seq hau2)⟩⟩
      have ok5:oh ⟨some c,none⟩:=by
       refine⟨fun c' e=>?_,fun n x e=>?_⟩
       ·have e:=Option.some.inj e
        rw [←e]; exact okc
       ·cases e
      have A5:HoldAt K ad h dx (.ref pc) .non vk ⟨some c,none⟩ H5:=by
       refine⟨hobj5,⟨(fun z=>by cases z),hch.monoX sx5 a4.obj (bJ (by decide +kernel))⟩,fun _=>rfl,fun n x e=>?_,a4.cols.mono sn5,ok5⟩
       cases e
      obtain⟨f1,f2⟩:=rh e0
      refine k _ _ dx (.ref pc) .non vk ⟨some c,none⟩ ((s04.n.trans sn5).trans s6.n) (A5.mono s6) ?_ ?_
      ·rw [f1]
       rfl
      ·rw [f2]
       refine⟨l,rfl,?_⟩
       rw [af,hul]
       rfl
noncomputable abbrev eE:Stmt:=bO (top 98) 2
theorem sc_Holder_tell_run:aD ["self","steps","numbers","start"] ["self","steps","numbers"] (aw eE):=⟨rfl,rfl,rfl,by decide +kernel,rfl,by decide +kernel,by decide +kernel⟩
noncomputable def G8 (K:PySem.W.Frag):List V→Hp→Vagrag.Call→Prop:=fun as H call=>∃(m:Int) (v:V) (ns:List Int),as=[.int m,v]∧rLI K H v ns∧Sml ns∧call=.run m ns
theorem zd {f:Addr} {fd:FuncData} (T:Tx P K mg base ad) (F:Fun K "tell_run" "Holder.tell_run" eE f fd) (aX:Fb P w K mg base 40 "within" ["number","low","high"] cO) (a9:Fb P w K mg base 42 "read_fractions" ["numbers","count"] (gG K)) (kH:Fb P w K mg base 45 "run_chain" ["chain","steps","start"] (FJ K (ad.cls "Chain") (ad.cls "Run"))):
  FnOk P w K mg base CX0 46 f fd ["self","steps","numbers"] (cG K ad (G8 K)):=by
 refine F.ok sc_Holder_tell_run (fun vs H Q E h=>?_) (fun cdv A outer s H vs Q E hr h=>?_)
 ·obtain⟨_,_,_,_,_,_,_,_,rfl,_,⟨_,_,_,rfl,_⟩,_⟩:=h; rfl
 ·obtain⟨h,dx,vc,vr,vk,st,as,call,rfl,a,⟨m,v,ns,rfl,hv,hsml,rfl⟩,k⟩:=h
  have e0:=FV (st:=st) m ns
  have out1:∀(z:Int) (H1:Hp),Same H H1→Vagrag.out (ax st) (.run m ns)=.error z→∀l,H1 l=none→Q (.ref l) (upd H1 l (.lst [.int z])):=fun z H1 s1 e l hl=>
   k _ _ dx vc vr vk st (s1.trans (Same.new hl)).n (a.mono (s1.trans (Same.new hl))) (j8 e).1.symm (by rw [(j8 e).2]; exact⟨l,rfl,af⟩)
  refine⟨_,(ag (aS (cq (aW (aP aX (hr.mono (by decide)) rfl (aa (pv 1) (aa am (aa (aO rfl T.jz) ah)))) (fun _=>rfl))) (aj (ay (aN (aa (aO rfl T.bf) ah)))) aC)
   (ag (aS (aE eM (aV (pv 0) rfl) bM (aK _)) (aj (ay (aN (aa (aO rfl T.kN) ah)))) aC)
   (ag (aF (i:=3) sc_Holder_tell_run.nd rfl (Or.inl rfl) (aP a9 (hr.mono (by decide)) rfl (aa (pv 2) (aa (aV (aV (pv 0) rfl) rfl) ah))))
   (ag (aS (aE eM (pv 3) bM (aK _)) (aj (ay (aN (aa (aO rfl T.dr) ah)))) aC)
   (ag (b5 (pv 0) (aP kH (hr.mono (by decide)) rfl (aa (aV (pv 0) rfl) (aa (pv 1) (aa (pv 3) ah)))) rfl)
   (ag (aS (aW (aV (aV (pv 0) rfl) rfl) (fun _=>rfl)) (aj (ay (aR jn (aN (aa am ah)) (aV (aV (pv 0) rfl) rfl)))) aC)
   (aj (ay (aN (aa am ah)))))))))),?_⟩
  refine⟨_,rfl,_,_,_,rfl,_,rfl,dQ (fun h1=>⟨(by show 1≤sizeLine; decide),out1 _ _ (Same.refl _) (by rw [e0,if_neg h1])⟩) fun hm=>?_⟩
  rw [if_pos hm] at e0
  obtain⟨n,rfl,e1,b1,b2⟩:=cW hm (by decide)
  rw [e1] at e0
  refine⟨_,rfl,h,_,dx,_,vc,rfl,a.obj,T.aH,T.n_Holder_chain,HoldAt.f_chain,rfl,_,rfl,?_⟩
  cases hc:st.chain with
  | none=>
   have e:=a.nc hc
   subst e
   rw [hc] at e0
   exact cp rfl ⟨(by show 1≤sizeLine; decide),out1 _ _ (Same.refl _) e0⟩
  | some c=>
   rw [hc] at e0
   have hch:=a.ch hc
   have ok:=a.ok.chain c hc
   have hch':=hch
   obtain⟨pc,dxc,vl,vo,rfl,hpc,_⟩:=hch'
   refine aM (fun z=>by cases z) ?_
   refine⟨_,rfl,_,rfl,h,_,dx,_,.ref pc,rfl,a.obj,T.aH,T.n_Holder_chain,HoldAt.f_chain,pc,_,dxc,_,_,rfl,hpc,T.bU,T.n_Chain_parts,lR ..,?_⟩
   have p4:=ok.p4
   refine(show gG K [v,.int (c.parts:Nat)] H _ E0 from bZ (ns,c.parts) ⟨_,rfl,hv,by show c.parts < 1000; omega⟩ fun H1 r1 s1 h1=>?_)
   have h1:cf (rLstT (rFr K)) H1 r1 (BM.rdF ns c.parts):=h1
   cases hq:BM.rdF ns c.parts with
   | none=>
    rw [hq] at h1
    simp only [hq] at e0
    have h1:r1=.non:=h1
    subst h1
    exact⟨_,rfl,rfl,_,rfl,cp rfl ⟨(by show 1≤sizeLine; decide),out1 _ _ s1 e0⟩⟩
   | some qs=>
    rw [hq] at h1
    simp only [hq] at e0
    have a1:=a.mono s1
    refine⟨_,rfl,rfl,_,rfl,aM h1.1 ?_⟩
    refine⟨_,rfl,h,_,dx,_,.ref pc,rfl,a1.obj,T.aH,T.n_Holder_chain,HoldAt.f_chain,_,rfl,_,rfl,?_⟩
    have hql:=BM.lC hq
    refine⟨c,n,qs,.ref pc,r1,rfl,a1.ch hc,ok,h1.2,hql,by omega,fun H2 p dxr ls lw lf vt s2 np R=>?_⟩
    have a2:=a1.mono s2
    refine⟨_,rfl,h,_,dx,_,rfl,a2.obj,T.aH,T.n_Holder_run,t7 (by decide),?_⟩
    rw [qV pW (i:=1) rfl rfl]
    have hph:p≠h:=fun z=>by rw [z,a1.obj] at np; cases np
    obtain⟨H3,hH3⟩:∃H3,H3=upd H2 h (.ins (ad.cls "Holder") dx (holdK.zip ([.ref pc,vr,vk].set 1 (.ref p)))):=⟨_,rfl⟩
    rw [←hH3]
    have sx3:SameX h H2 H3:=fun b o e hb=>by rw [hH3,aq hb]; exact e
    have sn3:=sx3.n a2.obj
    have hobj3:H3 h=some (.ins (ad.cls "Holder") dx (holdK.zip [.ref pc,.ref p,vk])):=by rw [hH3]; exact af
    have R3:=R.monoN sn3 (by rw [hH3,aq hph])
    let st':HSt:=⟨some c,some (n,qs)⟩
    have ok3:oh st':=by
     refine⟨fun c' e=>?_,fun n' x' e=>?_⟩
     ·have e:c=c':=Option.some.inj e
      rw [←e]; exact ok
     ·have e:(n,qs)=(n',x'):=Option.some.inj e
      injection e with e1 e2
      subst e1 e2
      exact⟨c,rfl,hql,iU hsml hq,by omega,by omega⟩
    have A3:HoldAt K ad h dx (.ref pc) (.ref p) vk st' H3:=by
     refine⟨hobj3,⟨(fun z=>by cases z),(a2.ch hc).monoX sx3 a2.obj (bJ (by decide +kernel))⟩,fun e=>?_,fun n' x' e=>?_,a2.cols.mono sn3,ok3⟩
     ·cases e
     ·have e:(n,qs)=(n',x'):=Option.some.inj e
      injection e with e1 e2
      subst e1 e2
      exact⟨c,p,dxr,ls,lw,lf,vt,rfl,rfl,R3⟩
    obtain⟨f1,f2⟩:=rh e0
    have hst:ax st'={ax st with start:=qs.map BM.aB,n:=n}:=by
     show({chain:=some (cX c),start:=qs.map BM.aB,n:=n}:Vagrag.State)={chain:=st.chain.map cX,start:=qs.map BM.aB,n:=n}
     rw [hc]
     rfl
    have hstates:=BM.mi (cX c) (jp ok) n 0 qs
    have hstates:(cX c).states n 0 (qs.map BM.aB)=match BM.bn (a6 c) c.outs n 0 qs with
     | .ok l=>.ok ((qs::l.map (BM.aY c.outs)).map (List.map BM.aB))
     | .error e=>.error e:=hstates
    refine⟨_,rfl,h,_,dx,_,.ref p,rfl,hobj3,T.aH,T.n_Holder_run,HoldAt.f_run,p,_,dxr,_,.ref lf,rfl,R3.obj,T.ci,T.n_Run_fault,cF kj (i:=3) rfl rfl,?_⟩
    cases ht:BM.bn (a6 c) c.outs n 0 qs with
    | ok l=>
     rw [ht] at hstates
     refine⟨false,.inl ⟨_,SqL.of (R3.good l ht).1,rfl⟩,jq ⟨(by show 1≤sizeLine; decide),fun lz hlz=>?_⟩⟩
     refine k _ _ dx (.ref pc) (.ref p) vk st' (((s1.trans s2).n.trans sn3).trans (Same.new hlz).n) (A3.mono (Same.new hlz)) (by rw [f1,hst]) ?_
     rw [f2,hstates]
     exact⟨lz,rfl,af⟩
    | error ie=>
     obtain⟨i,e⟩:=ie
     rw [ht] at hstates
     have hlf:=R3.bad i e ht
     refine⟨true,.inl ⟨_,SqL.of hlf,rfl⟩,gy ⟨(by show 1≤sizeLine; decide),fun l1 hl1=>?_⟩⟩
     have s4:=Same.new (o:=.lst [.int 1]) hl1
     refine⟨_,rfl,h,_,dx,_,.ref p,rfl,s4 _ _ hobj3,T.aH,T.n_Holder_run,HoldAt.f_run,p,_,dxr,_,.ref lf,rfl,s4 _ _ R3.obj,T.ci,T.n_Run_fault,cF kj (i:=3) rfl rfl,l1,lf,_,_,rfl,rfl,af,s4 _ _ hlf,(by show 1+3≤sizeLine; decide),fun l2 hl2=>?_⟩
     have s5:=Same.new (o:=.lst ([.int 1]++[.int (i:Nat),.int (e.line:Nat),.int (e.kind:Nat)])) hl2
     refine k _ _ dx (.ref pc) (.ref p) vk st' (((s1.trans s2).n.trans sn3).trans (s4.trans s5).n) (A3.mono (s4.trans s5)) (by rw [f1,hst]) ?_
     rw [f2,hstates]
     exact⟨l2,rfl,af⟩
end
end B
namespace B
open PySem PySem.Spec PyProof.Rows L2
open Vagrag (Game actTold)
theorem sF {s:Vagrag.State} {c:Vagrag.Call} (h:∀u l,Vagrag.out s c=.ok (u,l)→l.length≤8000):(ans s c).length≤8000:=by
 cases e:Vagrag.out s c with
 | error z=>rw [(j8 e).2]; exact(by decide:1≤8000)
 | ok p=>
  obtain⟨u,l⟩:=p
  rw [(rh e).2]
  exact h u l e
theorem cg {s:Vagrag.State} {c:Vagrag.Call} (hc:Dj c=true) (h:∀l,s.asked c=.ok l→l.length≤8000):(ans s c).length≤8000:=by
 rw [(rj hc).2]
 cases e:s.asked c with
 | error z=>exact(by decide:1≤8000)
 | ok l=>exact h l e
theorem iR {l:List Rat} {x:List Int} (h:BM.dh l=.ok x):x.length=1+2*l.length:=by
 unfold BM.dh at h
 split at h
 ·cases h
 ·have h:_=x:=Except.ok.inj h
  rw [←h,List.length_cons,o5]
  omega
theorem lD {code:VagraLine.Code} {outs:List Nat} {size:Nat} {vss:List (List Rat)}:∀{n:Nat} {y:List Rat},y.length=size→(BM.dc code outs size vss n y).length=size
 | 0,y,h=>h
 | n+1,y,h=>by
  show(BM.dc code outs size vss n (BM.fS code outs size (vss.getD n []) y)).length=size
  refine lD ?_
  unfold BM.fS
  rw [List.length_map,List.length_range]
theorem u5 {code:VagraLine.Code} {outs:List Nat} {vss:List (List Rat)}:∀{n i:Nat} {y:List Rat},y.length=outs.length→(BM.jN code outs vss n i y).length=outs.length
 | 0,i,y,h=>h
 | n+1,i,y,h=>by
  show(BM.jN code outs vss n (i+1) (BM.fT code outs (vss.getD i []) y)).length=outs.length
  refine u5 ?_
  unfold BM.fT
  rw [List.length_map]
theorem se {α:Type} {c d:Prop} [Decidable c] [Decidable d] {x:List Int} {l:List Int} {n:Nat} (h:(if c then(if d then Except.ok x else Except.error (-1)) else Except.error (-1):Except Int (List Int))=.ok l) (hx:c→d→x.length≤n):l.length≤n:=by
 split at h
 ·rename_i hc
  split at h
  ·rename_i hd
   have h:=Except.ok.inj h
   rw [←h]; exact hx hc hd
  ·cases h
 ·cases h
theorem Jc {st:HSt} (ok:oh st) (call:Vagrag.Call):(ans (ax st) call).length≤8000:=by
 have good:∀{ns:List Int} {qs:List Rat} {c:Ch},BM.rdF ns (a8 st)=some qs→st.chain=some c→qs.length=c.parts∧c.parts≤4:=fun {ns qs c} hq hc=>⟨by rw [BM.lC hq,gS hc],(ok.chain c hc).p4⟩
 cases call with
 | chain k lines outs=>
  refine sF fun u l h=>?_
  rw [CM] at h
  split at h
  ·split at h
   ·cases h
   ·unfold uX at h
    split at h
    ·cases h
    ·split at h
     ·split at h
      ·have h:=Except.ok.inj h
       injection h with _ h
       rw [←h]; exact(by decide:1≤8000)
      ·cases h
     ·cases h
  ·cases h
 | run n x=>
  refine sF fun u l h=>?_
  rw [FV] at h
  split at h
  ·split at h
   ·cases h
   ·split at h
    ·cases h
    ·have h:=Except.ok.inj h
     injection h with _ h
     rw [←h]
     unfold Vagrag.ranTold
     split
     ·exact(by decide:1≤8000)
     ·exact(by decide:4≤8000)
  ·cases h
 | state i=>
  refine cg rfl fun l h=>?_
  by_cases hi:0≤i∧i≤((ax st).n:Int)
  ·by_cases hr:db st=0
   ·obtain⟨c,n,x,tr,hc,hrun,ht,hxl,hxs,hn1,hn40⟩:=dN ok hr
    obtain⟨ii,rfl,e1,b1,b2⟩:=cW hi (by decide)
    rw [uo hrun] at b2
    rw [k4 ok hc hrun ht (by omega)] at h
    rw [iR h]
    have p4:=(ok.chain c hc).p4
    have ol:=(ok.chain c hc).ol
    have:((x::tr.map (BM.aY c.outs)).getD ii []).length≤4:=by
     cases ii with
     | zero=>show x.length≤4; omega
     | succ j=>
      show((tr.map (BM.aY c.outs)).getD j []).length≤4
      rw [List.getD_eq_getElem?_getD,List.getElem?_map]
      cases tr[j]? with
      | none=>exact Nat.zero_le _
      | some vs=>
       show(BM.aY c.outs vs).length≤4
       unfold BM.aY
       rw [List.length_map]
       omega
    omega
   ·rw [gg ok hi hr] at h; cases h
  ·rw [gh hi] at h; cases h
 | backward ns=>
  refine cg rfl fun l h=>?_
  rw [xB] at h
  by_cases hz:(if BM.rdF ns (a8 st)=none then(-2:Int) else db st)=0
  ·cases hq:BM.rdF ns (a8 st) with
   | none=>rw [hq,if_pos rfl] at hz; cases hz
   | some qs=>
    rw [hq,if_neg (by intro z; cases z)] at hz
    obtain⟨c,n,x,tr,hc,hrun,ht,hxl,hxs,hn1,hn40⟩:=dN ok hz
    rw [iq (fun w p=>Vagrag.tell (p.1.backward p.2 (ax st).n w)) ok hq hc hrun ht] at h
    have eb:(cX c).backward ((x::tr.map (BM.aY c.outs)).map (List.map BM.aB)) n (qs.map BM.aB)=(BM.dc (a6 c) c.outs c.parts tr n qs).map BM.aB:=BM.jE (c:=cX c) (jp (ok.chain c hc)) ht n qs (Nat.le_refl _)
    have h:Vagrag.tell ((cX c).backward ((x::tr.map (BM.aY c.outs)).map (List.map BM.aB)) (ax st).n (qs.map BM.aB))=.ok l:=h
    rw [uo hrun,eb,BM.fW] at h
    obtain⟨g1,g2⟩:=good hq hc
    rw [iR h,lD g1]
    omega
  ·rw [dt (fun w p=>Vagrag.tell (p.1.backward p.2 (ax st).n w)) ok hz] at h; cases h
 | forward ns=>
  refine cg rfl fun l h=>?_
  rw [xg] at h
  by_cases hz:(if BM.rdF ns (a8 st)=none then(-2:Int) else db st)=0
  ·cases hq:BM.rdF ns (a8 st) with
   | none=>rw [hq,if_pos rfl] at hz; cases hz
   | some qs=>
    rw [hq,if_neg (by intro z; cases z)] at hz
    obtain⟨c,n,x,tr,hc,hrun,ht,hxl,hxs,hn1,hn40⟩:=dN ok hz
    rw [iq (fun w p=>Vagrag.tell (p.1.forward p.2 (ax st).n 0 w)) ok hq hc hrun ht] at h
    have eb:(cX c).forward ((x::tr.map (BM.aY c.outs)).map (List.map BM.aB)) n 0 (qs.map BM.aB)=(BM.jN (a6 c) c.outs tr n 0 qs).map BM.aB:=BM.kO (c:=cX c) (jp (ok.chain c hc)) ht n 0 qs (by omega)
    have h:Vagrag.tell ((cX c).forward ((x::tr.map (BM.aY c.outs)).map (List.map BM.aB)) (ax st).n 0 (qs.map BM.aB))=.ok l:=h
    rw [uo hrun,eb,BM.fW] at h
    obtain⟨g1,g2⟩:=good hq hc
    have ol:=(ok.chain c hc).ol
    rw [iR h,u5 (by omega)]
    omega
  ·rw [dt (fun w p=>Vagrag.tell (p.1.forward p.2 (ax st).n 0 w)) ok hz] at h; cases h
 | least n c=>exact cg rfl fun l h=>by rw [p5] at h; exact se (α:=Int) h fun _ _=>(by decide:1≤8000)
 | split n c=>exact cg rfl fun l h=>by rw [p3] at h; exact se (α:=Int) h fun _ _=>(by decide:1≤8000)
 | most n c=>exact cg rfl fun l h=>by rw [tM] at h; exact se (α:=Int) h fun _ _=>(by decide:1≤8000)
 | room n c=>exact cg rfl fun l h=>by rw [tL] at h; exact se (α:=Int) h fun _ _=>(by decide:1≤8000)
 | schedule n c=>
  refine cg rfl fun l h=>?_
  rw [k5] at h
  refine se (α:=Int) h fun h1 h2=>?_
  have a1:=BM.gq (n:=n.toNat) (c:=c.toNat) (by omega) (by omega)
  have a2:=m8 (Vagrag.schedule n.toNat c.toNat)
  rw [List.length_cons]
  omega
 | check n c as=>
  refine cg rfl fun l h=>?_
  rw [p6] at h
  split at h
  ·split at h
   ·split at h
    ·have h:=Except.ok.inj h
     rw [←h]
     unfold Vagrag.checkTold
     split <;> exact(by decide:3≤8000)
    ·cases h
   ·cases h
  ·cases h
 | play m as ns=>
  refine cg rfl fun l h=>?_
  rw [C3] at h
  split at h
  ·split at h
   ·by_cases hz:(if BM.rdF ns (a8 st)=none then(-2:Int) else db st)=0
    ·cases hq:BM.rdF ns (a8 st) with
     | none=>rw [hq,if_pos rfl] at hz; cases hz
     | some qs=>
      rw [hq,if_neg (by intro z; cases z)] at hz
      obtain⟨c,n,x,tr,hc,hrun,ht,hxl,hxs,hn1,hn40⟩:=dN ok hz
      rw [iq (fun w p=>nt (ax st) m.toNat ((Vagrag.actsOf as).getD []) w p) ok hq hc hrun ht] at h
      have e:=y6 (m:=m.toNat) (qs:=qs) (acts:=(Vagrag.actsOf as).getD []) (ok.chain c hc) hrun ht
      rw [h] at e
      have e:l=_:=e
      obtain⟨g1,g2⟩:=good hq hc
      cases hp:Vagrag.play n m.toNat ((Vagrag.actsOf as).getD []) with
      | error z=>rw [hp] at e; rw [e]; exact(by decide:1≤8000)
      | ok g=>
       rw [hp] at e
       have e:l=cD (BM.dh (BM.dc (a6 c) c.outs c.parts tr n qs)):=e
       rw [e]
       cases ht':BM.dh (BM.dc (a6 c) c.outs c.parts tr n qs) with
       | error z=>exact(by decide:1≤8000)
       | ok y=>
        show y.length≤8000
        rw [iR ht',lD g1]
        omega
    ·rw [dt (fun w p=>nt (ax st) m.toNat ((Vagrag.actsOf as).getD []) w p) ok hz] at h; cases h
   ·cases h
  ·cases h
 | auto m ns=>
  refine cg rfl fun l h=>?_
  rw [DM] at h
  split at h
  ·rename_i hm
   by_cases hz:(if BM.rdF ns (a8 st)=none then(-2:Int) else db st)=0
   ·cases hq:BM.rdF ns (a8 st) with
    | none=>rw [hq,if_pos rfl] at hz; cases hz
    | some qs=>
     rw [hq,if_neg (by intro z; cases z)] at hz
     obtain⟨c,n,x,tr,hc,hrun,ht,hxl,hxs,hn1,hn40⟩:=dN ok hz
     rw [iq (fun w p=>Vagrag.tell (p.1.played (ax st).n m.toNat (ax st).start w (Vagrag.schedule (ax st).n m.toNat))) ok hq hc hrun ht] at h
     have h:Vagrag.tell ((cX c).played (ax st).n m.toNat (ax st).start (qs.map BM.aB) (Vagrag.schedule (ax st).n m.toNat))=.ok l:=h
     obtain⟨g,hg⟩:=BM.pM (n:=n) (c:=m.toNat) (by omega)
     rw [uo hrun,rk hrun,BM.mB (c:=cX c) (jp (ok.chain c hc)) ht hg,BM.fW] at h
     obtain⟨g1,g2⟩:=good hq hc
     have h:BM.dh (BM.dc (a6 c) c.outs c.parts tr n qs)=.ok l:=h
     rw [iR h,lD g1]
     omega
   ·rw [dt (fun w p=>Vagrag.tell (p.1.played (ax st).n m.toNat (ax st).start w (Vagrag.schedule (ax st).n m.toNat))) ok hz] at h; cases h
  ·cases h
section
variable {P:Program} {w:World} {K:PySem.W.Frag} {mg:Str→Option Value} {base:Heap} {ad:Ad}
noncomputable abbrev ki:Stmt:=top 117
theorem wq:aD ["holder","number","arguments"] ["holder","number","arguments"] (aw ki):=⟨rfl,rfl,rfl,by decide +kernel,rfl,by decide +kernel,by decide +kernel⟩
noncomputable def Hn (K:PySem.W.Frag) (H:Hp) (num:Int) (as:List V) (call:Vagrag.Call):Prop:=(num=0∧xI K as H call)∨(num=1∧G8 K as H call)∨(num=2∧xD as H call)∨(num=3∧Cq K as H call)∨(num=4∧Cp K as H call)∨(num=5∧xG as H call)∨(num=6∧xE as H call)∨(num=7∧Co as H call)∨(num=8∧Cm as H call)∨(num=9∧xF as H call)∨(num=10∧xH K as H call)∨(num=11∧Cn K as H call)∨(num=12∧Cs K as H call)
noncomputable def yJ (K:PySem.W.Frag) (ad:Ad):Sp:=fun vs H Q _=>∃(h dx av:Addr) (vc vr vk:V) (st:HSt) (num:Int) (as:List V) (call:Vagrag.Call),vs=[.ref h,.int num,.ref av]∧HoldAt K ad h dx vc vr vk st H∧SqL K H av as∧Hn K H num as call∧
 ∀H' r dx' vc' vr' vk' st',SameN H H'→HoldAt K ad h dx' vc' vr' vk' st' H'→ax st'=(Vagrag.step (ax st) call).1→rLT H' r (ans (ax st) call)→Q r H'
theorem wK {f:Addr} {fd:FuncData} (T:Tx P K mg base ad) (F:Fun K "answer_of" "answer_of" ki f fd) (dI:Mb P w K mg base (ad.cls "Holder") 42 "tell_chain" ["self","parts","numbers","outs"] (cG K ad (xI K))) (eR:Mb P w K mg base (ad.cls "Holder") 46 "tell_run" ["self","steps","numbers"] (cG K ad (G8 K))) (gZ:Mb P w K mg base (ad.cls "Holder") 43 "state" ["self","number"] (cG K ad xD)) (eT:Mb P w K mg base (ad.cls "Holder") 48 "backward" ["self","numbers"] (cG K ad (Cq K))) (fJ:Mb P w K mg base (ad.cls "Holder") 47 "forward" ["self","numbers"] (cG K ad (Cp K))) (g0:Mb P w K mg base (ad.cls "Holder") 44 "least" ["self","steps","slots"] (cG K ad xG)) (fI:Mb P w K mg base (ad.cls "Holder") 44 "parting" ["self","steps","slots"] (cG K ad xE)) (iG:Mb P w K mg base (ad.cls "Holder") 44 "most" ["self","slots","limit"] (cG K ad Co)) (iE:Mb P w K mg base (ad.cls "Holder") 44 "room" ["self","steps","limit"] (cG K ad Cm)) (eS:Mb P w K mg base (ad.cls "Holder") 44 "schedule" ["self","steps","slots"] (cG K ad xF)) (g4:Mb P w K mg base (ad.cls "Holder") 42 "check" ["self","steps","slots","act_numbers"] (cG K ad (xH K))) (iF:Mb P w K mg base (ad.cls "Holder") 49 "play" ["self","slots","act_numbers","numbers"] (cG K ad (Cn K))) (iH:Mb P w K mg base (ad.cls "Holder") 49 "auto" ["self","slots","numbers"] (cG K ad (Cs K))):
  FnOk P w K mg base CX0 50 f fd ["holder","number","arguments"] (yJ K ad):=by
 refine F.ok wq (fun vs H Q E h=>?_) (fun cdv A outer s H vs Q E hr h=>?_)
 ·obtain⟨_,_,_,_,_,_,_,_,_,_,rfl,_⟩:=h; rfl
 ·obtain⟨h,dx,av,vc,vr,vk,st,num,as,call,rfl,a,hav,hcall,k⟩:=h
  refine⟨_,(ag (aS (aE bN (pv 1) (aO rfl T.qQ) (aK _)) (aj (ay (dO dI (pv 0) (hr.mono (by decide)) (aa (aA aQ (pv 2) am (fun _ _=>rfl)) (aa (aA aQ (pv 2) am (fun _ _=>rfl)) (aa (aA aQ (pv 2) am (fun _ _=>rfl)) ah)))))) aC)
   (ag (aS (aE bN (pv 1) (aO rfl T.Dm) (aK _)) (aj (ay (dO eR (pv 0) (hr.mono (by decide)) (aa (aA aQ (pv 2) am (fun _ _=>rfl)) (aa (aA aQ (pv 2) am (fun _ _=>rfl)) ah))))) aC)
   (ag (aS (aE bN (pv 1) (aO rfl T.qM) (aK _)) (aj (ay (dO gZ (pv 0) (hr.mono (by decide)) (aa (aA aQ (pv 2) am (fun _ _=>rfl)) ah)))) aC)
   (ag (aS (aE bN (pv 1) (aO rfl T.jA) (aK _)) (aj (ay (dO eT (pv 0) (hr.mono (by decide)) (aa (aA aQ (pv 2) am (fun _ _=>rfl)) ah)))) aC)
   (ag (aS (aE bN (pv 1) (aO rfl T.lP) (aK _)) (aj (ay (dO fJ (pv 0) (hr.mono (by decide)) (aa (aA aQ (pv 2) am (fun _ _=>rfl)) ah)))) aC)
   (ag (aS (aE bN (pv 1) (aO rfl T.qO) (aK _)) (aj (ay (dO g0 (pv 0) (hr.mono (by decide)) (aa (aA aQ (pv 2) am (fun _ _=>rfl)) (aa (aA aQ (pv 2) am (fun _ _=>rfl)) ah))))) aC)
   (ag (aS (aE bN (pv 1) (aO rfl T.qN) (aK _)) (aj (ay (dO fI (pv 0) (hr.mono (by decide)) (aa (aA aQ (pv 2) am (fun _ _=>rfl)) (aa (aA aQ (pv 2) am (fun _ _=>rfl)) ah))))) aC)
   (ag (aS (aE bN (pv 1) (aO rfl T.xc) (aK _)) (aj (ay (dO iG (pv 0) (hr.mono (by decide)) (aa (aA aQ (pv 2) am (fun _ _=>rfl)) (aa (aA aQ (pv 2) am (fun _ _=>rfl)) ah))))) aC)
   (ag (aS (aE bN (pv 1) (aO rfl T.xa) (aK _)) (aj (ay (dO iE (pv 0) (hr.mono (by decide)) (aa (aA aQ (pv 2) am (fun _ _=>rfl)) (aa (aA aQ (pv 2) am (fun _ _=>rfl)) ah))))) aC)
   (ag (aS (aE bN (pv 1) (aO rfl T.jy) (aK _)) (aj (ay (dO eS (pv 0) (hr.mono (by decide)) (aa (aA aQ (pv 2) am (fun _ _=>rfl)) (aa (aA aQ (pv 2) am (fun _ _=>rfl)) ah))))) aC)
   (ag (aS (aE bN (pv 1) (aO rfl T.qP) (aK _)) (aj (ay (dO g4 (pv 0) (hr.mono (by decide)) (aa (aA aQ (pv 2) am (fun _ _=>rfl)) (aa (aA aQ (pv 2) am (fun _ _=>rfl)) (aa (aA aQ (pv 2) am (fun _ _=>rfl)) ah)))))) aC)
   (ag (aS (aE bN (pv 1) (aO rfl T.xb) (aK _)) (aj (ay (dO iF (pv 0) (hr.mono (by decide)) (aa (aA aQ (pv 2) am (fun _ _=>rfl)) (aa (aA aQ (pv 2) am (fun _ _=>rfl)) (aa (aA aQ (pv 2) am (fun _ _=>rfl)) ah)))))) aC)
   (aj (ay (dO iH (pv 0) (hr.mono (by decide)) (aa (aA aQ (pv 2) am (fun _ _=>rfl)) (aa (aA aQ (pv 2) am (fun _ _=>rfl)) ah))))))))))))))))),?_⟩
  rcases hcall with⟨rfl,hc⟩ | ⟨rfl,hc⟩ | ⟨rfl,hc⟩ | ⟨rfl,hc⟩ | ⟨rfl,hc⟩ | ⟨rfl,hc⟩ | ⟨rfl,hc⟩ | ⟨rfl,hc⟩ | ⟨rfl,hc⟩ | ⟨rfl,hc⟩ | ⟨rfl,hc⟩ | ⟨rfl,hc⟩ | ⟨rfl,hc⟩
  ·obtain⟨m,v,u,las,os,rfl,hc⟩:=hc
   exact⟨_,rfl,rfl,_,rfl,cp rfl ⟨_,rfl,h,dx,_,rfl,a.obj,bJ (by decide +kernel),_,rfl,av,_,0,_,rfl,rfl,hav,rfl,_,rfl,av,_,1,_,rfl,rfl,hav,rfl,_,rfl,av,_,2,_,rfl,rfl,hav,rfl,h,dx,vc,vr,vk,st,_,call,rfl,a,⟨m,v,u,las,os,rfl,hc⟩,k⟩⟩
  ·obtain⟨m,v,ns,rfl,hc⟩:=hc
   refine⟨_,rfl,rfl,_,rfl,aM (by decide) ?_⟩
   exact⟨_,rfl,rfl,_,rfl,cp rfl ⟨_,rfl,h,dx,_,rfl,a.obj,bJ (by decide +kernel),_,rfl,av,_,0,_,rfl,rfl,hav,rfl,_,rfl,av,_,1,_,rfl,rfl,hav,rfl,h,dx,vc,vr,vk,st,_,call,rfl,a,⟨m,v,ns,rfl,hc⟩,k⟩⟩
  ·obtain⟨i,rfl,hc⟩:=hc
   refine⟨_,rfl,rfl,_,rfl,aM (by decide) ?_⟩
   refine⟨_,rfl,rfl,_,rfl,aM (by decide) ?_⟩
   exact⟨_,rfl,rfl,_,rfl,cp rfl ⟨_,rfl,h,dx,_,rfl,a.obj,bJ (by decide +kernel),_,rfl,av,_,0,_,rfl,rfl,hav,rfl,h,dx,vc,vr,vk,st,_,call,rfl,a,⟨i,rfl,hc⟩,k⟩⟩
  ·obtain⟨v,ns,rfl,hc⟩:=hc
   refine⟨_,rfl,rfl,_,rfl,aM (by decide) ?_⟩
   refine⟨_,rfl,rfl,_,rfl,aM (by decide) ?_⟩
   refine⟨_,rfl,rfl,_,rfl,aM (by decide) ?_⟩
   exact⟨_,rfl,rfl,_,rfl,cp rfl ⟨_,rfl,h,dx,_,rfl,a.obj,bJ (by decide +kernel),_,rfl,av,_,0,_,rfl,rfl,hav,rfl,h,dx,vc,vr,vk,st,_,call,rfl,a,⟨v,ns,rfl,hc⟩,k⟩⟩
  ·obtain⟨v,ns,rfl,hc⟩:=hc
   refine⟨_,rfl,rfl,_,rfl,aM (by decide) ?_⟩
   refine⟨_,rfl,rfl,_,rfl,aM (by decide) ?_⟩
   refine⟨_,rfl,rfl,_,rfl,aM (by decide) ?_⟩
   refine⟨_,rfl,rfl,_,rfl,aM (by decide) ?_⟩
   exact⟨_,rfl,rfl,_,rfl,cp rfl ⟨_,rfl,h,dx,_,rfl,a.obj,bJ (by decide +kernel),_,rfl,av,_,0,_,rfl,rfl,hav,rfl,h,dx,vc,vr,vk,st,_,call,rfl,a,⟨v,ns,rfl,hc⟩,k⟩⟩
  ·obtain⟨n,c,rfl,hc⟩:=hc
   refine⟨_,rfl,rfl,_,rfl,aM (by decide) ?_⟩
   refine⟨_,rfl,rfl,_,rfl,aM (by decide) ?_⟩
   refine⟨_,rfl,rfl,_,rfl,aM (by decide) ?_⟩
   refine⟨_,rfl,rfl,_,rfl,aM (by decide) ?_⟩
   refine⟨_,rfl,rfl,_,rfl,aM (by decide) ?_⟩
   exact⟨_,rfl,rfl,_,rfl,cp rfl ⟨_,rfl,h,dx,_,rfl,a.obj,bJ (by decide +kernel),_,rfl,av,_,0,_,rfl,rfl,hav,rfl,_,rfl,av,_,1,_,rfl,rfl,hav,rfl,h,dx,vc,vr,vk,st,_,call,rfl,a,⟨n,c,rfl,hc⟩,k⟩⟩
  ·obtain⟨n,c,rfl,hc⟩:=hc
   refine⟨_,rfl,rfl,_,rfl,aM (by decide) ?_⟩
   refine⟨_,rfl,rfl,_,rfl,aM (by decide) ?_⟩
   refine⟨_,rfl,rfl,_,rfl,aM (by decide) ?_⟩
   refine⟨_,rfl,rfl,_,rfl,aM (by decide) ?_⟩
   refine⟨_,rfl,rfl,_,rfl,aM (by decide) ?_⟩
   refine⟨_,rfl,rfl,_,rfl,aM (by decide) ?_⟩
   exact⟨_,rfl,rfl,_,rfl,cp rfl ⟨_,rfl,h,dx,_,rfl,a.obj,bJ (by decide +kernel),_,rfl,av,_,0,_,rfl,rfl,hav,rfl,_,rfl,av,_,1,_,rfl,rfl,hav,rfl,h,dx,vc,vr,vk,st,_,call,rfl,a,⟨n,c,rfl,hc⟩,k⟩⟩
  ·obtain⟨n,c,rfl,hc⟩:=hc
   refine⟨_,rfl,rfl,_,rfl,aM (by decide) ?_⟩
   refine⟨_,rfl,rfl,_,rfl,aM (by decide) ?_⟩
   refine⟨_,rfl,rfl,_,rfl,aM (by decide) ?_⟩
   refine⟨_,rfl,rfl,_,rfl,aM (by decide) ?_⟩
   refine⟨_,rfl,rfl,_,rfl,aM (by decide) ?_⟩
   refine⟨_,rfl,rfl,_,rfl,aM (by decide) ?_⟩
   refine⟨_,rfl,rfl,_,rfl,aM (by decide) ?_⟩
   exact⟨_,rfl,rfl,_,rfl,cp rfl ⟨_,rfl,h,dx,_,rfl,a.obj,bJ (by decide +kernel),_,rfl,av,_,0,_,rfl,rfl,hav,rfl,_,rfl,av,_,1,_,rfl,rfl,hav,rfl,h,dx,vc,vr,vk,st,_,call,rfl,a,⟨n,c,rfl,hc⟩,k⟩⟩
  ·obtain⟨n,c,rfl,hc⟩:=hc
   refine⟨_,rfl,rfl,_,rfl,aM (by decide) ?_⟩
   refine⟨_,rfl,rfl,_,rfl,aM (by decide) ?_⟩
   refine⟨_,rfl,rfl,_,rfl,aM (by decide) ?_⟩
   refine⟨_,rfl,rfl,_,rfl,aM (by decide) ?_⟩
   refine⟨_,rfl,rfl,_,rfl,aM (by decide) ?_⟩
   refine⟨_,rfl,rfl,_,rfl,aM (by decide) ?_⟩
   refine⟨_,rfl,rfl,_,rfl,aM (by decide) ?_⟩
   refine⟨_,rfl,rfl,_,rfl,aM (by decide) ?_⟩
   exact⟨_,rfl,rfl,_,rfl,cp rfl ⟨_,rfl,h,dx,_,rfl,a.obj,bJ (by decide +kernel),_,rfl,av,_,0,_,rfl,rfl,hav,rfl,_,rfl,av,_,1,_,rfl,rfl,hav,rfl,h,dx,vc,vr,vk,st,_,call,rfl,a,⟨n,c,rfl,hc⟩,k⟩⟩
  ·obtain⟨n,c,rfl,hc⟩:=hc
   refine⟨_,rfl,rfl,_,rfl,aM (by decide) ?_⟩
   refine⟨_,rfl,rfl,_,rfl,aM (by decide) ?_⟩
   refine⟨_,rfl,rfl,_,rfl,aM (by decide) ?_⟩
   refine⟨_,rfl,rfl,_,rfl,aM (by decide) ?_⟩
   refine⟨_,rfl,rfl,_,rfl,aM (by decide) ?_⟩
   refine⟨_,rfl,rfl,_,rfl,aM (by decide) ?_⟩
   refine⟨_,rfl,rfl,_,rfl,aM (by decide) ?_⟩
   refine⟨_,rfl,rfl,_,rfl,aM (by decide) ?_⟩
   refine⟨_,rfl,rfl,_,rfl,aM (by decide) ?_⟩
   exact⟨_,rfl,rfl,_,rfl,cp rfl ⟨_,rfl,h,dx,_,rfl,a.obj,bJ (by decide +kernel),_,rfl,av,_,0,_,rfl,rfl,hav,rfl,_,rfl,av,_,1,_,rfl,rfl,hav,rfl,h,dx,vc,vr,vk,st,_,call,rfl,a,⟨n,c,rfl,hc⟩,k⟩⟩
  ·obtain⟨n,c,v,ns,rfl,hc⟩:=hc
   refine⟨_,rfl,rfl,_,rfl,aM (by decide) ?_⟩
   refine⟨_,rfl,rfl,_,rfl,aM (by decide) ?_⟩
   refine⟨_,rfl,rfl,_,rfl,aM (by decide) ?_⟩
   refine⟨_,rfl,rfl,_,rfl,aM (by decide) ?_⟩
   refine⟨_,rfl,rfl,_,rfl,aM (by decide) ?_⟩
   refine⟨_,rfl,rfl,_,rfl,aM (by decide) ?_⟩
   refine⟨_,rfl,rfl,_,rfl,aM (by decide) ?_⟩
   refine⟨_,rfl,rfl,_,rfl,aM (by decide) ?_⟩
   refine⟨_,rfl,rfl,_,rfl,aM (by decide) ?_⟩
   refine⟨_,rfl,rfl,_,rfl,aM (by decide) ?_⟩
   exact⟨_,rfl,rfl,_,rfl,cp rfl ⟨_,rfl,h,dx,_,rfl,a.obj,bJ (by decide +kernel),_,rfl,av,_,0,_,rfl,rfl,hav,rfl,_,rfl,av,_,1,_,rfl,rfl,hav,rfl,_,rfl,av,_,2,_,rfl,rfl,hav,rfl,h,dx,vc,vr,vk,st,_,call,rfl,a,⟨n,c,v,ns,rfl,hc⟩,k⟩⟩
  ·obtain⟨m,v,u,las,ns,rfl,hc⟩:=hc
   refine⟨_,rfl,rfl,_,rfl,aM (by decide) ?_⟩
   refine⟨_,rfl,rfl,_,rfl,aM (by decide) ?_⟩
   refine⟨_,rfl,rfl,_,rfl,aM (by decide) ?_⟩
   refine⟨_,rfl,rfl,_,rfl,aM (by decide) ?_⟩
   refine⟨_,rfl,rfl,_,rfl,aM (by decide) ?_⟩
   refine⟨_,rfl,rfl,_,rfl,aM (by decide) ?_⟩
   refine⟨_,rfl,rfl,_,rfl,aM (by decide) ?_⟩
   refine⟨_,rfl,rfl,_,rfl,aM (by decide) ?_⟩
   refine⟨_,rfl,rfl,_,rfl,aM (by decide) ?_⟩
   refine⟨_,rfl,rfl,_,rfl,aM (by decide) ?_⟩
   refine⟨_,rfl,rfl,_,rfl,aM (by decide) ?_⟩
   exact⟨_,rfl,rfl,_,rfl,cp rfl ⟨_,rfl,h,dx,_,rfl,a.obj,bJ (by decide +kernel),_,rfl,av,_,0,_,rfl,rfl,hav,rfl,_,rfl,av,_,1,_,rfl,rfl,hav,rfl,_,rfl,av,_,2,_,rfl,rfl,hav,rfl,h,dx,vc,vr,vk,st,_,call,rfl,a,⟨m,v,u,las,ns,rfl,hc⟩,k⟩⟩
  ·obtain⟨m,u,ns,rfl,hc⟩:=hc
   refine⟨_,rfl,rfl,_,rfl,aM (by decide) ?_⟩
   refine⟨_,rfl,rfl,_,rfl,aM (by decide) ?_⟩
   refine⟨_,rfl,rfl,_,rfl,aM (by decide) ?_⟩
   refine⟨_,rfl,rfl,_,rfl,aM (by decide) ?_⟩
   refine⟨_,rfl,rfl,_,rfl,aM (by decide) ?_⟩
   refine⟨_,rfl,rfl,_,rfl,aM (by decide) ?_⟩
   refine⟨_,rfl,rfl,_,rfl,aM (by decide) ?_⟩
   refine⟨_,rfl,rfl,_,rfl,aM (by decide) ?_⟩
   refine⟨_,rfl,rfl,_,rfl,aM (by decide) ?_⟩
   refine⟨_,rfl,rfl,_,rfl,aM (by decide) ?_⟩
   refine⟨_,rfl,rfl,_,rfl,aM (by decide) ?_⟩
   refine⟨_,rfl,rfl,_,rfl,aM (by decide) ?_⟩
   exact⟨_,rfl,h,dx,_,rfl,a.obj,bJ (by decide +kernel),_,rfl,av,_,0,_,rfl,rfl,hav,rfl,_,rfl,av,_,1,_,rfl,rfl,hav,rfl,h,dx,vc,vr,vk,st,_,call,rfl,a,⟨m,u,ns,rfl,hc⟩,k⟩
theorem wZ {l:Addr} {H:Hp} (h:H l=none):hide (at1 l) H=H:=by
 funext b
 by_cases hb:b=l
 ·rw [jr (decide_eq_true hb),hb,h]
 ·rw [bw (decide_eq_false hb)]
theorem EI {l:Addr} {H H':Hp} (h:H' l=none):hide (at1 l) (j3 (at1 l) H H')=H':=by
 funext b
 unfold hide j3
 by_cases hb:b=l
 ·rw [if_pos (decide_eq_true hb),hb,h]
 ·rw [if_neg (fun z=>hb (of_decide_eq_true z)),if_neg (fun z=>hb (of_decide_eq_true z))]
theorem back_at {l:Addr} {H H':Hp}:j3 (at1 l) H H' l=H l:=by unfold j3; rw [if_pos (decide_eq_true rfl)]
theorem IZ {l b:Addr} {H H':Hp} (h:b≠l):j3 (at1 l) H H' b=H' b:=by unfold j3; rw [if_neg (fun z=>h (of_decide_eq_true z))]
theorem Kq {a b:Addr} {H:Hp}:Same (hide (at2 a b) H) (hide (at1 a) H):=fun c o e=>by
 obtain⟨h1,h2⟩:=cz e
 rw [bw (decide_eq_false (at2_false.mp h1).1)]
 exact h2
theorem FS {l a:Addr} {H:Hp} {xs:List V} (h:SqL K (hide (at1 l) H) a xs):SqL K H a xs:=hide_same.seq h
theorem pR {α β:Type} {R:α→β→Prop}:∀{l:List α} {m:List β} {i:Nat} {x:β},Paired R l m→m[i]?= some x→∃y,l[i]?= some y∧R y x
 | _,_,i,_,.nil,e=>by simp at e
 | _,_,0,_,.cons r _,e=>by simp at e; subst e; exact⟨_,rfl,r⟩
 | _,_,i+1,x,.cons _ t,e=>by
  obtain⟨y,h1,h2⟩:=pR (i:=i) (x:=x) t (by simpa using e)
  exact⟨y,by simpa using h1,h2⟩
theorem IY {H:Hp} {num:Int} {zs:List Int} {xs:List (List Int)} {refs:List V} (hs:BM.Shp num zs xs) (hp:Paired (rLI K H) refs xs) (hask:VagragNeutral.asked1 ((num::zs)::xs)=true):∃call,VagragNeutral.callOf ((num::zs)::xs)=some call∧Hn K H num (zs.map V.int++refs) call:=by
 cases hs with
 | c0 s l o=>
  cases hp with
  | cons r1 t1=>
   cases t1 with
   | cons r2 t2=>
    cases t2
    exact⟨.chain s l o,rfl,.inl ⟨rfl,s,_,_,l,o,rfl,r1,Nat.le_trans (of_decide_eq_true (BM.br (BM.bl (BM.br hask)))) (by decide),r2,Nat.le_trans (of_decide_eq_true (BM.br (BM.br (BM.br hask)))) (by decide),rfl⟩⟩
 | c1 n x=>
  cases hp with
  | cons r1 t1=>
   cases t1
   exact⟨.run n x,rfl,.inr (.inl ⟨rfl,n,_,x,rfl,r1,BM.rC (BM.bl (BM.br hask)),rfl⟩)⟩
 | c2 i=>
  cases hp
  exact⟨.state i,rfl,.inr (.inr (.inl ⟨rfl,i,rfl,rfl⟩))⟩
 | c3 w=>
  cases hp with
  | cons r1 t1=>
   cases t1
   exact⟨.backward w,rfl,.inr (.inr (.inr (.inl ⟨rfl,_,w,rfl,r1,BM.rC (BM.bl hask),rfl⟩)))⟩
 | c4 d=>
  cases hp with
  | cons r1 t1=>
   cases t1
   exact⟨.forward d,rfl,.inr (.inr (.inr (.inr (.inl ⟨rfl,_,d,rfl,r1,BM.rC (BM.bl hask),rfl⟩))))⟩
 | c5 n k=>
  cases hp
  exact⟨.least n k,rfl,.inr (.inr (.inr (.inr (.inr (.inl ⟨rfl,n,k,rfl,rfl⟩)))))⟩
 | c6 n k=>
  cases hp
  exact⟨.split n k,rfl,.inr (.inr (.inr (.inr (.inr (.inr (.inl ⟨rfl,n,k,rfl,rfl⟩))))))⟩
 | c7 n k=>
  cases hp
  exact⟨.most n k,rfl,.inr (.inr (.inr (.inr (.inr (.inr (.inr (.inl ⟨rfl,n,k,rfl,rfl⟩)))))))⟩
 | c8 n k=>
  cases hp
  exact⟨.room n k,rfl,.inr (.inr (.inr (.inr (.inr (.inr (.inr (.inr (.inl ⟨rfl,n,k,rfl,rfl⟩))))))))⟩
 | c9 n k=>
  cases hp
  exact⟨.schedule n k,rfl,.inr (.inr (.inr (.inr (.inr (.inr (.inr (.inr (.inr (.inl ⟨rfl,n,k,rfl,rfl⟩)))))))))⟩
 | c10 n k l=>
  cases hp with
  | cons r1 t1=>
   cases t1
   exact⟨.check n k l,rfl,.inr (.inr (.inr (.inr (.inr (.inr (.inr (.inr (.inr (.inr (.inl ⟨rfl,n,k,_,l,rfl,r1,Nat.le_trans (of_decide_eq_true (BM.br (BM.br (BM.br hask)))) (by decide),rfl⟩))))))))))⟩
 | c11 k l w=>
  cases hp with
  | cons r1 t1=>
   cases t1 with
   | cons r2 t2=>
    cases t2
    exact⟨.play k l w,rfl,.inr (.inr (.inr (.inr (.inr (.inr (.inr (.inr (.inr (.inr (.inr (.inl ⟨rfl,k,_,_,l,w,rfl,r1,Nat.le_trans (of_decide_eq_true (BM.br (BM.bl (BM.br hask)))) (by decide),r2,BM.rC (BM.bl (BM.br (BM.br hask))),rfl⟩)))))))))))⟩
 | c12 k w=>
  cases hp with
  | cons r1 t1=>
   cases t1
   exact⟨.auto k w,rfl,.inr (.inr (.inr (.inr (.inr (.inr (.inr (.inr (.inr (.inr (.inr (.inr (⟨rfl,k,_,w,rfl,r1,BM.rC (BM.bl (BM.br hask)),rfl⟩))))))))))))⟩
noncomputable abbrev oz:Stmt:=top 116
theorem sc_answers:aD ["calls","holder","told","place","number","arguments","row","length","answer"] ["calls"] (aw oz):=⟨rfl,rfl,rfl,by decide +kernel,rfl,by decide +kernel,by decide +kernel⟩
noncomputable def FI (K:PySem.W.Frag):Sp:=fun vs H Q _=>∃(ac:Addr) (ns:List Int),vs=[.ref ac]∧SqL K H ac (ns.map V.int)∧ns.length≤16000∧PyVagrag.answers_asked ns=true∧∀(H':Hp) (p:Addr),H' p=some (.lst ((PyVagrag.answers ns).map V.int))→Q (.ref p) H'
noncomputable abbrev JQ (K:PySem.W.Frag) (ad:Ad) (ns:List Int) (total:List Int) (ac h lt:Addr) (σ:L2.St) (H':Hp):Prop:=∃(p f:Nat) (v4 v5 v6 v7 v8:Option V) (tv:List Int) (st:HSt) (dx:Addr) (vc vr vk:V) (cs:List (List (List Int))),
 σ=[some (.ref ac),some (.ref h),some (.ref lt),some (.int (p:Int)),v4,v5,v6,v7,v8]∧H' lt=some (.lst (tv.map V.int))∧SqL K (hide (at1 lt) H') ac (ns.map V.int)∧HoldAt K ad h dx vc vr vk st (hide (at1 lt) H')∧p≤ns.length∧PyFlat.calls PyVagrag.shape f (ns.drop p)=some cs∧(∀c∈cs,VagragNeutral.asked1 c=true)∧
 tv++PyFlat.told (PyFlat.played VagragNeutral.step (ax st) cs)=total∧tv.length+8001*cs.length≤3200400
theorem Gv {ns:List Int} {p:Nat} {z:Int} {r:List Int} (h:ns.drop p=z::r):ns[p]?= some z∧p < ns.length∧r=ns.drop (p+1):=by
 have hlt:p < ns.length:=by
  cases Nat.lt_or_ge p ns.length with
  | inl h=>exact h
  | inr h2=>rw [List.drop_eq_nil_of_le h2] at h; cases h
 rw [List.drop_eq_getElem_cons hlt] at h
 injection h with h1 h2
 exact⟨by rw [List.getElem?_eq_getElem hlt,h1],hlt,h2.symm⟩
theorem Bu {f:Addr} {fd:FuncData} (T:Tx P K mg base ad) (F:Fun K "answers" "answers" oz f fd) (sQ:Cb P w K mg base (ad.cls "Holder") 40 "Holder" ["self"] (rp (ad.cls "Holder"))) (kJ:Fb P w K mg base 50 "answer_of" ["holder","number","arguments"] (GF (yJ K ad))):
  FnOk P w K mg base CX0 51 f fd ["calls"] (FI K):=by
 refine F.ok sc_answers (fun vs H Q E h=>?_) (fun cdv A outer s H vs Q E hr h=>?_)
 ·obtain⟨_,_,rfl,_⟩:=h; rfl
 ·obtain⟨ac,ns,rfl,hac,hnl,hasked,k⟩:=h
  obtain⟨cs0,hcs0,hall0,hcl0⟩:∃cs,PyFlat.calls PyVagrag.shape ns.length ns=some cs∧(∀c∈cs,VagragNeutral.asked1 c=true)∧cs.length≤400:=by
   unfold PyVagrag.answers_asked at hasked
   rw [BM.z6] at hasked
   cases e:PyFlat.calls PyVagrag.shape ns.length ns with
   | none=>rw [e] at hasked; cases hasked
   | some cs=>
    rw [e] at hasked
    have hasked:(PyFlat.atMost 400 cs && VagragNeutral.asked cs)=true:=hasked
    rw [Bool.and_eq_true] at hasked
    unfold VagragNeutral.asked at hasked
    rw [Bool.and_eq_true] at hasked
    exact⟨cs,rfl,fun c hc=>List.all_eq_true.mp hasked.2.1 c hc,of_decide_eq_true hasked.1⟩
  have htotal:PyVagrag.answers ns=PyFlat.told (PyFlat.played VagragNeutral.step VagragNeutral.start cs0):=by
   unfold PyVagrag.answers
   rw [BM.z6,hcs0]
  refine⟨_,(ag (aF (i:=1) sc_answers.nd rfl (Or.inl rfl) (J9 sQ (hr.mono (by decide)) rfl))
   (ag (aF (i:=2) sc_answers.nd rfl (Or.inl rfl) (aN ah))
   (ag (aF (i:=3) sc_answers.nd rfl (Or.inl rfl) am)
   (ag (iV PassesOwn.never (aE r8 (pv 3) (ba (iX (K:=K) rfl) rfl T.du PySem.boot_len (aa (pv 0) ah)) (aK _))
    (ag (aF (i:=4) sc_answers.nd rfl (Or.inl rfl) (aA aQ (pv 0) (pv 3) (fun _ _=>rfl)))
    (ag (wz (i:=3) sc_answers.nd rfl (Or.inl rfl) am wX)
    (ag (aF (i:=5) sc_answers.nd rfl (Or.inl rfl) (nu wm (pv 0) (jl (pv 3)) (jl (aR cu (pv 3) (aA aG (aA aG (kr rfl T.i4) (pv 4) (fun _ _=>rfl)) am (fun _ _=>rfl))))))
    (ag (wz (i:=3) sc_answers.nd rfl (Or.inl rfl) (aA aG (aA aG (kr rfl T.i4) (pv 4) (fun _ _=>rfl)) am (fun _ _=>rfl)) wX)
    (ag (cV PassesOwn.never rfl (d8 rfl T.cN (aa (aA aG (aA aG (kr rfl T.i4) (pv 4) (fun _ _=>rfl)) am (fun _ _=>rfl)) ah)) (a7 (i:=6) sc_answers.nd rfl (Or.inl rfl) (hf:=Or.inl rfl))
     (ag (aF (i:=7) sc_answers.nd rfl (Or.inl rfl) (aA aQ (pv 0) (pv 3) (fun _ _=>rfl)))
     (ag (bX (d9 PySem.F.plainAttrs_list PySem.F.slot_list_append PySem.F.type_list_append b9 (pv 5) (aa (nu wm (pv 0) (jl (aR cu (pv 3) am)) (jl (aR cu (aR cu (pv 3) am) (pv 7)))) ah)))
     (aj (wz (i:=3) sc_answers.nd rfl (Or.inl rfl) (aR cu am (pv 7)) wX)))))
    (ag (aF (i:=8) sc_answers.nd rfl (Or.inl rfl) (aP kJ (hr.mono (by decide)) rfl (aa (pv 1) (aa (pv 4) (aa (pv 5) ah)))))
    (ag (bX (d9 PySem.F.plainAttrs_list PySem.F.slot_list_append PySem.F.type_list_append b9 (pv 2) (aa (ba (iX (K:=K) rfl) rfl T.du PySem.boot_len (aa (pv 8) ah)) ah)))
    (aj (bX (d9 PySem.F.plainAttrs_list PySem.F.slot_list_extend PySem.F.type_list_extend lH (pv 2) (aa (pv 8) ah))))))))))))
   (aj (ay (pv 2))))))),?_⟩
  refine fun h dx nh ndx nx=>?_
  have nh:H h=none:=nh
  have ndx:H dx=none:=ndx
  refine⟨h,dx,rfl,af,fun H1 lk e1 e2 nlk sx=>⟨rfl,?_⟩⟩
  have s1:Same H H1:=fun b o e=>sx b o (by rw [aq (az e nh),aq (az e ndx)]; exact e) (az e nh)
  refine⟨Nat.zero_le _,fun lt hlt=>?_⟩
  have hlt:H1 lt=none:=hlt
  have hh0:hide (at1 lt) (upd H1 lt (.lst []))=H1:=by rw [dR,wZ hlt]
  have A0:HoldAt K ad h dx .non .non (.ref lk) ⟨none,none⟩ H1:=by
   refine⟨e1,rfl,fun _=>rfl,fun n x e=>?_,.inl ⟨lk,rfl,e2⟩,⟨fun c e=>?_,fun n x e=>?_⟩⟩
   ·cases e
   ·cases e
   ·cases e
  dsimp only [DY,yA,nP,tC]
  refine j7 (JQ K ad ns (PyVagrag.answers ns) ac h lt) (fun σ _=>match σ with | [_,_,_,some (.int p),_,_,_,_,_]=>ns.length - p.toNat | _=>0)
   ⟨0,ns.length,none,none,none,none,none,[],⟨none,none⟩,dx,.non,.non,.ref lk,cs0,rfl,af,by rw [hh0]; exact s1.seq hac,by rw [hh0]; exact A0,Nat.zero_le _,by rw [List.drop_zero]; exact hcs0,hall0,by rw [htotal]; rfl,by show 0+8001*cs0.length≤3200400; omega⟩ ?_ (fun σ H Q Q' h ⟨v,e,v2,e2,a,b,c,d,i,j,h1,h2,z,h3,q⟩=>⟨v,e,v2,e2,a,b,c,d,i,j,h1,h2,z,h3,h _ _ q⟩)
  rintro σ H2 ⟨p,fu,v4,v5,v6,v7,v8,tv,st,dx2,vc,vr,vk,cs,rfl,hlt2,hac2,A2,hple,hcs,hall,htot,hlen⟩
  have hacF:=FS hac2
  refine⟨_,rfl,_,rfl,ac,_,rfl,.inl hacF,_,_,rfl,rfl,_,rfl,dH (fun hlt'=>?_) fun hge=>?_⟩
  ·have hp:p < ns.length:=by rw [List.length_map] at hlt'; omega
   obtain⟨num,r,hdrop⟩:∃num r,ns.drop p=num::r:=⟨_,_,List.drop_eq_getElem_cons hp⟩
   rw [hdrop] at hcs
   obtain⟨hnum,_,hr⟩:=Gv hdrop
   obtain⟨f',a,b,xs,t,cs',hshape,har,hrows,hcs',rfl⟩:=BM.tJ hcs
   obtain⟨j,rfl,hj⟩:=BM.yO hshape
   obtain⟨hab1,hab2⟩:=BM.yN hshape
   have hrl:r.length=ns.length - (p+1):=by rw [hr,List.length_drop]
   obtain⟨sp,hsp,hkt⟩:=pR T.nE hj
   have hkt:KT K sp [.int (a:Int),.int (b:Int)]:=hkt
   have hsh:(ad.kC.map V.ref)[j]?= some (.ref sp):=by rw [List.getElem?_map,hsp]; rfl
   refine⟨_,rfl,_,rfl,ac,_,_,_,rfl,rfl,hacF,bW rfl (g5 hnum),?_⟩
   refine⟨_,rfl,_,_,rfl,rfl,?_⟩
   refine⟨_,rfl,_,rfl,_,rfl,_,rfl,_,rfl,ad.dy,_,_,_,rfl,rfl,T.iS.sq _,bW rfl hsh,sp,_,0,_,rfl,rfl,hkt.sq _,rfl,_,_,rfl,rfl,_,rfl,ac,_,rfl,hacF,fun av hav=>?_⟩
   have nav:H2 av=none:=hav
   have ecut:lV (ns.map V.int) (some ((p:Int)+1)) (some ((p:Int)+1+(a:Int)))=(r.take a).map V.int:=by
    rw [show(p:Int)+1=((p+1:Nat):Int) by omega,show((p+1:Nat):Int)+(a:Int)=((p+1+a:Nat):Int) by omega,xx (by rw [List.length_map]; omega) (by omega),←List.map_drop,←List.map_take,←hr,show p+1+a - (p+1)=a by omega]
   rw [ecut]
   have s3:=Same.new (o:=.lst ((r.take a).map V.int)) nav
   have navlt:lt≠av:=az hlt2 nav
   have hav3:upd H2 av (.lst ((r.take a).map V.int)) av=some (.lst ((r.take a).map V.int)):=af
   generalize upd H2 av (.lst ((r.take a).map V.int))=H3 at s3 hav3⊢
   have hac3:=s3.seq hacF
   refine⟨_,rfl,_,rfl,ad.dy,_,_,_,rfl,rfl,T.iS.sq _,bW rfl hsh,sp,_,0,_,rfl,rfl,hkt.sq _,rfl,_,_,rfl,rfl,?_⟩
   refine⟨_,rfl,ad.dy,_,_,_,rfl,rfl,T.iS.sq _,bW rfl hsh,sp,_,1,_,rfl,rfl,hkt.sq _,rfl,(b:Int),rfl,by omega,by omega,?_⟩
   refine i7 (lo:=0) (n:=(b:Int).toNat) (fun i σ H4=>∃(q:Nat) (v6 v7:Option V) (refs:List V) (xd xr:List (List Int)),σ=[some (.ref ac),some (.ref h),some (.ref lt),some (.int (q:Int)),some (.int (j:Int)),some (.ref av),v6,v7,v8]∧Same H2 H4∧H4 av=some (.lst ((r.take a).map V.int++refs))∧Paired (rLI K (hide (at2 lt av) H4)) refs xd∧xd.length=i∧i≤b∧xs=xd++xr∧q≤ns.length∧p < q∧PyFlat.rows (b - i) (ns.drop q)=some (xr,t))
    ⟨p+1+a,v6,v7,[],[],xs,?_,s3,by rw [List.append_nil]; exact hav3,.nil,rfl,Nat.zero_le _,rfl,by omega,by omega,?_⟩ ?_ ?_
   ·show [some (V.ref ac),some (V.ref h),some (V.ref lt),some (V.int ((p:Int)+1+(a:Int))),some (V.int (j:Int)),some (V.ref av),v6,v7,v8]=_
    rw [show(p:Int)+1+(a:Int)=((p+1+a:Nat):Int) by omega]
   ·rw [Nat.sub_zero,←hrows,hr,List.drop_drop]
   ·rintro i σ H4 hi ⟨q,v6,v7,refs,xd,xr,rfl,s4,hav4,hpr,hxl,hib,hxs,hq,hpq,hrw⟩
    have hib:i < b:=by omega
    rw [show b - i=(b - (i+1))+1 by omega] at hrw
    obtain⟨n,r2,xr',hd2,hnr,hrw2,rfl⟩:=BM.u1 hrw
    obtain⟨hn2,hq2,hr2⟩:=Gv hd2
    have hac4:=s4.seq hacF
    have hr2l:r2.length=ns.length - (q+1):=by rw [hr2,List.length_drop]
    have hpl:=aJ hpr
    refine⟨_,rfl,_,rfl,ac,_,_,_,rfl,rfl,hac4,bW rfl (g5 hn2),?_⟩
    refine⟨_,rfl,.inl ⟨rfl,_,SqL.of hav4⟩,_,rfl,_,rfl,_,_,rfl,rfl,_,rfl,_,rfl,_,_,rfl,rfl,_,rfl,_,_,rfl,rfl,_,rfl,ac,_,rfl,hac4,fun rw_ hrw_=>?_⟩
    have nrw:H4 rw_=none:=hrw_
    have ecut2:lV (ns.map V.int) (some ((q:Int)+1)) (some ((q:Int)+1+(n:Int)))=(r2.take n).map V.int:=by
     rw [show(q:Int)+1=((q+1:Nat):Int) by omega,show((q+1:Nat):Int)+(n:Int)=((q+1+n:Nat):Int) by omega,xx (by rw [List.length_map]; omega) (by omega),←List.map_drop,←List.map_take,←hr2,show q+1+n - (q+1)=n by omega]
    rw [ecut2]
    have s5:=Same.new (o:=.lst ((r2.take n).map V.int)) nrw
    refine⟨av,_,_,rfl,rfl,s5 _ _ hav4,?_,?_⟩
    ·rw [List.length_append,List.length_map,List.length_take,hpl]
     exact bc (by omega)
    have hD:at2 lt av rw_=false:=at2_false.mpr ⟨(fun z=>by rw [z,s4 _ _ hlt2] at nrw; cases nrw),(fun z=>by rw [z,hav4] at nrw; cases nrw)⟩
    have hh5:hide (at2 lt av) (upd (upd H4 rw_ (.lst ((r2.take n).map V.int))) av (.lst ((r.take a).map V.int++refs++[.ref rw_])))=hide (at2 lt av) (upd H4 rw_ (.lst ((r2.take n).map V.int))):=oW JJ
    refine⟨_,rfl,_,rfl,_,_,rfl,rfl,_,_,rfl,rfl,⟨q+(1+n),some (.int (0+(i:Int))),some (.int (n:Int)),refs++[.ref rw_],xd++[r2.take n],xr',?_,?_,?_,?_,?_,by omega,?_,by omega,by omega,?_⟩⟩
    ·show [some (V.ref ac),some (V.ref h),some (V.ref lt),some (V.int ((q:Int)+(1+(n:Int)))),some (V.int (j:Int)),some (V.ref av),some (V.int (0+(i:Int))),some (V.int (n:Int)),v8]=_
     rw [show(q:Int)+(1+(n:Int))=((q+(1+n):Nat):Int) by omega]
    ·exact(s4.trans s5).upd1 nav
    ·rw [af,List.append_assoc]
    ·rw [hh5]
     refine bz (aT mLI s5.hide hpr) ⟨rw_,rfl,SqL.of ?_⟩
     rw [bw hD,af]
    ·rw [List.length_append,hxl]; rfl
    ·rw [hxs,List.append_assoc]; rfl
    ·rw [←hrw2,hr2,List.drop_drop,show q+1+n=q+(1+n) by omega]
   ·rintro σ H4 ⟨q,v6,v7,refs,xd,xr,rfl,s4,hav4,hpr,hxl,hib,hxs,hq,hpq,hrw⟩
    rw [show(b:Int).toNat=b by omega,Nat.sub_self] at hrw
    obtain⟨rfl,ht⟩:=BM.u0 hrw
    rw [List.append_nil] at hxs
    subst hxs
    have hask:=hall _ (List.mem_cons_self ..)
    have hpr1:Paired (rLI K (hide (at1 lt) H4)) refs xs:=aT mLI Kq hpr
    obtain⟨call,hcall,hcat⟩:=IY (K:=K) (BM.FO hshape (List.length_take_of_le har) (BM.yV hrows)) hpr1 hask
    have s4h:Same (hide (at1 lt) H2) (hide (at1 lt) H4):=s4.hide
    have A4:=A2.mono s4h
    have hlt4:=s4 _ _ hlt2
    refine⟨_,rfl,_,rfl,_,rfl,?_⟩
    refine⟨at1 lt,OnlyL.one hlt4,h,dx2,av,vc,vr,vk,st,(j:Int),_,call,rfl,A4,SqL.of (by rw [bw (decide_eq_false navlt.symm)]; exact hav4),hcat,fun H5 rr dx' vc' vr' vk' st' sn A5 hst hrr free=>?_⟩
    have fr:H5 lt=none:=free lt (decide_eq_true rfl)
    obtain⟨la,rfl,hla⟩:=hrr
    have hlan:la≠lt:=fun z=>by rw [z,fr] at hla; cases hla
    have hhb:=EI (l:=lt) (H:=H4) fr
    have hlt6:j3 (at1 lt) H4 H5 lt=some (.lst (tv.map V.int)):=back_at.trans hlt4
    have hla6:j3 (at1 lt) H4 H5 la=some (.lst ((ans (ax st) call).map V.int)):=(IZ hlan).trans hla
    have hac6:SqL K H5 ac (ns.map V.int):=sn.seq (s4h.seq hac2)
    generalize j3 (at1 lt) H4 H5=G at hhb hlt6 hla6
    have hal:=Jc A2.ok call
    rw [List.length_cons] at hlen
    refine⟨_,rfl,.inl ⟨rfl,_,SqL.of hlt6⟩,_,rfl,la,_,rfl,.inl (SqL.of hla6),lt,_,_,rfl,rfl,hlt6,?_,?_⟩
    ·rw [List.length_map,sizeLine_eq]; omega
    refine⟨_,rfl,.inl ⟨rfl,_,SqL.of af⟩,_,rfl,lt,la,_,_,rfl,rfl,af,by rw [aq hlan]; exact hla6,?_,?_⟩
    ·rw [List.length_append,List.length_map,List.length_map,sizeLine_eq]
     show tv.length+1+_≤_
     omega
    have hstep:VagragNeutral.step (ax st) (((j:Int)::r.take a)::xs)=((Vagrag.step (ax st) call).1,ans (ax st) call):=by
     unfold VagragNeutral.step
     rw [hcall]
     rfl
    have hplayed:PyFlat.told (PyFlat.played VagragNeutral.step (ax st) ((((j:Int)::r.take a)::xs)::cs'))=(((ans (ax st) call).length:Int)::ans (ax st) call)++PyFlat.told (PyFlat.played VagragNeutral.step (ax st') cs'):=by
     show PyFlat.told ((VagragNeutral.step (ax st) (((j:Int)::r.take a)::xs)).2::PyFlat.played VagragNeutral.step (VagragNeutral.step (ax st) (((j:Int)::r.take a)::xs)).1 cs')=_
     rw [hstep,hst]
     rfl
    rw [hplayed] at htot
    refine⟨⟨q,f',_,_,_,_,_,tv++(((ans (ax st) call).length:Int)::ans (ax st) call),st',dx',vc',vr',vk',cs',rfl,?_,?_,?_,hq,?_,fun c hc=>hall c (List.mem_cons_of_mem _ hc),?_,?_⟩,?_⟩
    ·rw [af,List.map_append,List.map_cons,List.append_assoc,List.length_map]
     rfl
    ·rw [dR,dR,hhb]; exact hac6
    ·rw [dR,dR,hhb]; exact A5
    ·rw [←ht]; exact hcs'
    ·rw [List.append_assoc]; exact htot
    ·rw [List.length_append,List.length_cons]; omega
    ·show ns.length - (q:Int).toNat < ns.length - (p:Int).toNat
     omega
  ·have e:p=ns.length:=by rw [List.length_map] at hge; omega
   rw [e,List.drop_length] at hcs
   have ecs:=BM.vE hcs
   subst ecs
   have htot:tv=PyVagrag.answers ns:=by rw [←htot]; show tv=tv++[]; rw [List.append_nil]
   refine⟨_,rfl,k _ lt ?_⟩
   rw [hlt2,htot]
end
end B
namespace B
open PySem PySem.Spec PyProof.Rows L2
theorem us0 {P:List Value→Prop} (h:P []):∀us:List Value,us.length=0→P us
 | [],_=>h
theorem usS {n:Nat} {P:List Value→Prop} (h:∀(a:Value) (us:List Value),us.length=n→P (a::us)):∀us:List Value,us.length=n+1→P us
 | a::us,e=>h a us (Nat.succ.inj e)
theorem MJ (ma Jp pS vj y9:Addr) (yZ:List Addr) (bj bU ci aH:Addr):∃ad:Ad,ad.bL=ma∧ad.jS=Jp∧ad.b8=pS∧ad.cS=vj∧ad.dy=y9∧ad.kC=yZ∧ad.cls "Desk"=bj∧ad.cls "Chain"=bU∧ad.cls "Run"=ci∧ad.cls "Holder"=aH:=by
 refine⟨{bL:=ma,jS:=Jp,b8:=pS,cS:=vj,dy:=y9,kC:=yZ,cls:=fun s=>if s=("Desk": Str) then bj else if s=("Chain": Str) then bU else if s=("Run": Str) then ci else aH},rfl,rfl,rfl,rfl,rfl,rfl,?_,?_,?_,?_⟩
 ·show(if ("Desk": Str)="Desk" then bj else if ("Desk": Str)="Chain" then bU else if ("Desk": Str)="Run" then ci else aH)=bj
  rw [if_pos rfl]
 ·show(if ("Chain": Str)="Desk" then bj else if ("Chain": Str)="Chain" then bU else if ("Chain": Str)="Run" then ci else aH)=bU
  rw [if_neg (by decide +kernel:¬(("Chain": Str)="Desk")),if_pos rfl]
 ·show(if ("Run": Str)="Desk" then bj else if ("Run": Str)="Chain" then bU else if ("Run": Str)="Run" then ci else aH)=ci
  rw [if_neg (by decide +kernel:¬(("Run": Str)="Desk")),if_neg (by decide +kernel:¬(("Run": Str)="Chain")),if_pos rfl]
 ·show(if ("Holder": Str)="Desk" then bj else if ("Holder": Str)="Chain" then bU else if ("Holder": Str)="Run" then ci else aH)=aH
  rw [if_neg (by decide +kernel:¬(("Holder": Str)="Desk")),if_neg (by decide +kernel:¬(("Holder": Str)="Chain")),if_neg (by decide +kernel:¬(("Holder": Str)="Run"))]
noncomputable abbrev gN (K:PySem.W.Frag) (x:Str):Prop:=PySem.W.nsIn K mainGlobals x=some none
noncomputable abbrev gI (K:PySem.W.Frag) (x:Str) (i:Int):Prop:=∃t,PySem.W.nsIn K mainGlobals x=some (some (.int i t))
noncomputable abbrev gD (K:PySem.W.Frag) (x:Str) (st:Stmt):Prop:=∃f fd,PySem.W.nsIn K mainGlobals x=some (some (.ref f))∧Fun K x x st f fd
noncomputable abbrev gM (K:PySem.W.Frag) (C:Addr) (x q:Str) (st:Stmt):Prop:=∃f fd,PySem.W.findIn K (.ref C) x=some (some (.ref f))∧PySem.W.isFn K (.ref f)=true∧Fun K x q st f fd
noncomputable abbrev gC (K:PySem.W.Frag) (C:Addr):Prop:=Cls K C∧PySem.W.makesIn K C=true∧PySem.W.keepIn K (.ref C)=true
noncomputable abbrev nA (K:PySem.W.Frag) (C:Addr) (x:Str):Prop:=PySem.W.findIn K (.ref C) x=some none
theorem mN {K:PySem.W.Frag} {x:Str} (h:PySem.W.nsIn K mainGlobals x=some none):gN K x:=h
theorem mI {K:PySem.W.Frag} {x:Str} {i:Int} {t:Tok} (h:PySem.W.nsIn K mainGlobals x=some (some (.int i t))):gI K x i:=⟨t,h⟩
theorem mD {K:PySem.W.Frag} {x:Str} {st:Stmt} {f:Addr} {oc:Value} {od an:Option Addr} {osl:Array (Option Value)} {kV doc pm cdv ct:Value} (a:PySem.W.nsIn K mainGlobals x=some (some (.ref f))) (l:K.lookup f=some ⟨oc,od,.func (PySem.W.fnOf x x (lQ st) (jC st) (aw st) .none kV doc pm an cdv ct),osl⟩) (c:PySem.W.codeIn K cdv x=true) (k:PySem.W.keepIn K (.ref f)=true):gD K x st:=⟨f,_,a,GE l c k⟩
theorem mM {K:PySem.W.Frag} {C:Addr} {x q:Str} {st:Stmt} {f:Addr} {oc:Value} {od an:Option Addr} {osl:Array (Option Value)} {kV doc pm cdv ct:Value} (a:PySem.W.findIn K (.ref C) x=some (some (.ref f))) (i:PySem.W.isFn K (.ref f)=true) (l:K.lookup f=some ⟨oc,od,.func (PySem.W.fnOf x q (lQ st) (jC st) (aw st) .none kV doc pm an cdv ct),osl⟩) (c:PySem.W.codeIn K cdv q=true) (k:PySem.W.keepIn K (.ref f)=true):gM K C x q st:=⟨f,_,a,i,GE l c k⟩
theorem mC {K:PySem.W.Frag} {C:Addr} (a:PySem.W.plainGet K C Str.empty=true) (b:PySem.W.hasDictIn K C=true) (c:PySem.W.plainOver K C=true) (d:PySem.W.findIn K (.ref C) "__setattr__"=some (some (.builtin "object.__setattr__"))) (e:PySem.W.makesIn K C=true) (f:PySem.W.keepIn K (.ref C)=true):gC K C:=⟨⟨a,b,c,d⟩,e,f⟩
theorem mA {K:PySem.W.Frag} {C:Addr} {x:Str} (h:PySem.W.findIn K (.ref C) x=some none):nA K C x:=h
section
variable {P:Program} {w:World} {K:PySem.W.Frag} {h base:Heap} {mg:Str→Option Value} {x q:Str} {st:Stmt} {f C:Addr} {fd:FuncData} {k:Nat} {ps:List Str} {sp:Sp}
theorem b6 (X:K.In h) (G:h.Ns mainGlobals mg) (a:PySem.W.nsIn K mainGlobals x=some (some (.ref f))) (F:Fun K x x st f fd) (b:Binds K fd ps []) (ok:FnOk P w K mg base CX0 k f fd ps sp):Fb P w K mg base k x ps sp:=⟨f,fd,ok,PySem.W.mg_of X G a,F.kp,b⟩
theorem jo (c:Cls K C) (a:PySem.W.findIn K (.ref C) x=some (some (.ref f))) (i:PySem.W.isFn K (.ref f)=true) (F:Fun K x q st f fd) (b:Binds K fd ps []) (ok:FnOk P w K mg base CX0 k f fd ps sp):Mb P w K mg base C k x ps sp:=⟨c,f,fd,⟨a,i,F.kp⟩,ok,b⟩
theorem Il {c:Str} (X:K.In h) (G:h.Ns mainGlobals mg) (g:PySem.W.nsIn K mainGlobals c=some (some (.ref C))) (kc:gC K C) (a:PySem.W.findIn K (.ref C) "__init__"=some (some (.ref f))) (i:PySem.W.isFn K (.ref f)=true) (b:Binds K fd ps []) (ok:FnOk P w K mg base CX0 k f fd ps sp):Cb P w K mg base C k c ps sp:=⟨f,fd,⟨kc.2.1,a,i,kc.2.2⟩,ok,PySem.W.mg_of X G g,b⟩
end
theorem fk {K:PySem.W.Frag} {a:Addr} {xs:List V} {its:Array Value} {od:Option Addr} {n:Nat} {sl:Array (Option Value)} (h:K.lookup a=some ⟨.type "tuple",od,.seq its n,sl⟩) (hz:its.size≤sizeLine) (hv:Vals xs its.toList):KT K a xs:=⟨_,its,n,h,rfl,rfl,hz,hv⟩
set_option maxHeartbeats 0 in
theorem all_mk {P:Program} {w:World} {K:PySem.W.Frag} {h:Heap} {mg:Str→Option Value} {fa:Addr} (htree:P.given.tree=none) (X:K.In h) (G:h.Ns mainGlobals mg) (hfa:mg "answers"=some (.ref fa))
  {bL:Addr} {sk:Option Addr} {up:Nat} {rE:Array (Option Value)} {q5:Tok} {q0:Tok} {qZ:Tok} {qY:Tok} {jS:Addr} {Kh:Option Addr} {Lu:Nat} {JY:Array (Option Value)} {JO:Tok} {JN:Tok} {b8:Addr} {wM:Option Addr} {zr:Nat} {wn:Array (Option Value)} {vT:Tok} {vP:Tok} {cS:Addr} {Bv:Option Addr} {Et:Nat} {A6:Array (Option Value)} {AI:Tok} {AH:Tok} {AG:Tok} {AF:Tok} {AE:Tok} {AD:Tok} {AB:Tok} {dy:Addr} {Es:Option Addr} {nE:Nat} {Ec:Array (Option Value)} {oN:Addr} {oM:Addr} {oK:Addr} {oJ:Addr} {oI:Addr} {oH:Addr} {oG:Addr} {oF:Addr} {oE:Addr} {oC:Addr} {mz:Addr} {my:Addr} {mx:Addr} {BF:Option Addr} {ED:Nat} {Bi:Array (Option Value)} {yt:Tok} {yi:Tok} {BE:Option Addr} {EC:Nat} {Bh:Array (Option Value)} {yr:Tok} {yh:Tok} {BD:Option Addr} {EB:Nat} {Bg:Array (Option Value)} {yq:Tok} {yg:Tok} {BC:Option Addr} {EA:Nat} {Bf:Array (Option Value)} {yp:Tok} {yf:Tok} {BB:Option Addr} {Ez:Nat} {Be:Array (Option Value)} {yo:Tok} {ye:Tok} {BA:Option Addr} {Ey:Nat} {Bc:Array (Option Value)} {yn:Tok} {yd:Tok} {Bz:Option Addr} {Ex:Nat} {Bb:Array (Option Value)} {ym:Tok} {yc:Tok} {By:Option Addr} {Ew:Nat} {Ba:Array (Option Value)} {yl:Tok} {yb:Tok} {Bx:Option Addr} {Ev:Nat} {A8:Array (Option Value)} {yk:Tok} {ya:Tok} {Bw:Option Addr} {Eu:Nat} {A7:Array (Option Value)} {yj:Tok} {xZ:Tok} {zo:Option Addr} {BI:Nat} {yM:Array (Option Value)} {vW:Tok} {vS:Tok} {zn:Option Addr} {BH:Nat} {yL:Array (Option Value)} {vV:Tok} {vR:Tok} {zm:Option Addr} {BG:Nat} {yK:Array (Option Value)} {vU:Tok} {vQ:Tok} {iO:Addr} {jM:Addr} {oi:Addr} {bg:Addr}
  (p0:gN K "abs")
  (Af:gN K "all")
  (DL:gN K "any")
  (eA:gN K "enumerate")
  (du:gN K "len")
  (xC:gN K "list")
  (Ae:gN K "max")
  (tK:gN K "min")
  (cN:gN K "range")
  (DK:gN K "sum")
  (qT:gN K "tuple")
  (Ac:gN K "zip")
  (kM:gI K "TAKE" (0))
  (oZ:gI K "KEEP" (1))
  (mS:gI K "STEP" (2))
  (sT:gI K "TURN" (3))
  (fV:PySem.W.nsIn K mainGlobals "ACT_LENGTHS"=some (some (.ref bL)))
  (fR:K.lookup bL=some ⟨.type "tuple",sk,.seq #[.int (2) q5,.int (2) q0,.int (1) qZ,.int (1) qY] up,rE⟩)
  (lM:gI K "NO_SLOT" (1))
  (dW:gI K "SLOT_IS_EMPTY" (2))
  (de:gI K "NOTHING_AT_HAND" (3))
  (eW:gI K "LAST_AT_HAND" (4))
  (dX:gI K "OTHER_IS_LEFT" (5))
  (dF:gI K "STEPS_ARE_LEFT" (6))
  (sU:PySem.W.nsIn K mainGlobals "ONE"=some (some (.ref jS)))
  (CN:K.lookup jS=some ⟨.type "tuple",Kh,.seq #[.int (1) JO,.int (1) JN] Lu,JY⟩)
  (f6:PySem.W.nsIn K mainGlobals "MINUS_ONE"=some (some (.ref b8)))
  (hZ:K.lookup b8=some ⟨.type "tuple",wM,.seq #[.int (-1) vT,.int (1) vP] zr,wn⟩)
  (lO:gI K "INPUT" (0))
  (d6:gI K "CONSTANT" (1))
  (zE:gI K "SUM" (2))
  (eY:gI K "DIFFERENCE" (3))
  (i5:gI K "PRODUCT" (4))
  (g7:gI K "OPPOSITE" (6))
  (lN:PySem.W.nsIn K mainGlobals "LENGTHS"=some (some (.ref cS)))
  (ly:K.lookup cS=some ⟨.type "tuple",Bv,.seq #[.int (2) AI,.int (3) AH,.int (3) AG,.int (3) AF,.int (3) AE,.int (3) AD,.int (2) AB] Et,A6⟩)
  (eX:gI K "DIVISOR_IS_0" (1))
  (cx:gI K "TOO_HEAVY_linecode" (2))
  (fU:gI K "MOST_WEIGHT" (200))
  (b7:gI K "MOST_STEPS" (60))
  (cM:gI K "MOST_SLOTS" (20))
  (bf:gI K "OUT_OF_RANGE" (-1))
  (dr:gI K "BAD_FORM" (-2))
  (eU:gI K "USES_UNKNOWN" (-3))
  (kN:gI K "NO_RUN" (-4))
  (ip:gI K "HAS_FAULT" (-5))
  (cJ:gI K "TOO_HEAVY_holder" (-6))
  (g6:gI K "TOO_MANY" (-7))
  (gz:gI K "NOT_PLAYED" (-8))
  (gA:gI K "MOST_PARTS" (4))
  (gB:gI K "MOST_LINES" (30))
  (jz:gI K "MOST_RUN" (40))
  (cK:gI K "MOST_TOLD_WEIGHT" (4000))
  (dq:gI K "MOST_FORWARD" (1000000))
  (io:gI K "MOST_ACTS" (2000))
  (bS:gI K "MOST_SCHEDULE_STEPS" (50))
  (bo:gI K "MOST_SCHEDULE_SLOTS" (10))
  (qQ:gI K "CHAIN" (0))
  (Dm:gI K "RUN" (1))
  (qM:gI K "STATE" (2))
  (jA:gI K "BACKWARD" (3))
  (lP:gI K "FORWARD" (4))
  (qO:gI K "LEAST" (5))
  (qN:gI K "SPLIT" (6))
  (xc:gI K "MOST" (7))
  (xa:gI K "ROOM" (8))
  (jy:gI K "SCHEDULE" (9))
  (qP:gI K "CHECK" (10))
  (xb:gI K "PLAY" (11))
  (i4:PySem.W.nsIn K mainGlobals "SHAPES"=some (some (.ref dy)))
  (iS:K.lookup dy=some ⟨.type "tuple",Es,.seq #[.ref oN,.ref oM,.ref oK,.ref oJ,.ref oI,.ref oH,.ref oG,.ref oF,.ref oE,.ref oC,.ref mz,.ref my,.ref mx] nE,Ec⟩)
  (D8:K.lookup oN=some ⟨.type "tuple",BF,.seq #[.int (1) yt,.int (2) yi] ED,Bi⟩)
  (D7:K.lookup oM=some ⟨.type "tuple",BE,.seq #[.int (1) yr,.int (1) yh] EC,Bh⟩)
  (D6:K.lookup oK=some ⟨.type "tuple",BD,.seq #[.int (1) yq,.int (0) yg] EB,Bg⟩)
  (D5:K.lookup oJ=some ⟨.type "tuple",BC,.seq #[.int (0) yp,.int (1) yf] EA,Bf⟩)
  (D4:K.lookup oI=some ⟨.type "tuple",BB,.seq #[.int (0) yo,.int (1) ye] Ez,Be⟩)
  (D3:K.lookup oH=some ⟨.type "tuple",BA,.seq #[.int (2) yn,.int (0) yd] Ey,Bc⟩)
  (D2:K.lookup oG=some ⟨.type "tuple",Bz,.seq #[.int (2) ym,.int (0) yc] Ex,Bb⟩)
  (D1:K.lookup oF=some ⟨.type "tuple",By,.seq #[.int (2) yl,.int (0) yb] Ew,Ba⟩)
  (D0:K.lookup oE=some ⟨.type "tuple",Bx,.seq #[.int (2) yk,.int (0) ya] Ev,A8⟩)
  (DZ:K.lookup oC=some ⟨.type "tuple",Bw,.seq #[.int (2) yj,.int (0) xZ] Eu,A7⟩)
  (AQ:K.lookup mz=some ⟨.type "tuple",zo,.seq #[.int (2) vW,.int (1) vS] BI,yM⟩)
  (AO:K.lookup my=some ⟨.type "tuple",zn,.seq #[.int (1) vV,.int (2) vR] BH,yL⟩)
  (AN:K.lookup mx=some ⟨.type "tuple",zm,.seq #[.int (1) vU,.int (1) vQ] BG,yK⟩)
  (KO:PySem.W.nsIn K mainGlobals "Desk"=some (some (.ref iO)))
  (Gs:gC K iO)
  (uz:nA K iO "steps")
  (uA:nA K iO "slots")
  (wR:nA K iO "hand")
  (wQ:nA K iO "left")
  (qm:nA K iO "stepped")
  (su:nA K iO "turned")
  (Jj:PySem.W.nsIn K mainGlobals "Chain"=some (some (.ref jM)))
  (Dg:gC K jM)
  (sw:nA K jM "parts")
  (sy:nA K jM "lines")
  (uB:nA K jM "outs")
  (L4:PySem.W.nsIn K mainGlobals "Run"=some (some (.ref oi)))
  (Jt:gC K oi)
  (wO:nA K oi "steps")
  (uw:nA K oi "states")
  (uq:nA K oi "worked")
  (wP:nA K oi "fault")
  (uu:nA K oi "tables")
  (Hh:PySem.W.nsIn K mainGlobals "Holder"=some (some (.ref bg)))
  (zw:gC K bg)
  (ql:nA K bg "chain")
  (ux:nA K bg "run")
  (nF:nA K bg "columns")
  (LW:gD K "cut" FT)
  (qv:gM K iO "__init__" "Desk.__init__" ga)
  (zU:gD K "read_acts" ig)
  (zR:gD K "told_acts" kf)
  (zV:gD K "play_acts" kg)
  (o8:gD K "reason_against" ft)
  (GY:gD K "do_act" rO)
  (tz:gD K "count_filled" eD)
  (mV:gD K "greatest_divisor" dZ)
  (GX:gD K "lowest" rN)
  (qr:gD K "lowest_within" f8)
  (GU:gD K "weight" rL)
  (LX:gD K "add" FU)
  (B7:gD K "subtract" mr)
  (Ca:gD K "multiply" mw)
  (GZ:gD K "divide" rP)
  (B9:gD K "opposite" mv)
  (o9:gD K "read_fractions" fw)
  (xp:gD K "read_lines" gv)
  (uH:gD K "well_formed" iy)
  (xn:gD K "uses_known" jg)
  (B8:gD K "run_code" mt)
  (B6:gD K "work_out" mq)
  (GW:gD K "row_of" nr)
  (pf:gD K "least_multiple" fz)
  (IU:gD K "scale" qH)
  (Cd:gD K "add_rows" ji)
  (E7:gD K "shorten" lA)
  (GV:gD K "slopes" rM)
  (xu:gD K "change_row" gx)
  (xo:gD K "step_table" gu)
  (nQ:gD K "numerators_over" da)
  (LV:gD K "dot" CW)
  (KE:gD K "push" wu)
  (KD:gD K "turn" wr)
  (zX:gD K "column_of" ij)
  (qt:gD K "least_columns" dU)
  (qu:gD K "column_behind" f9)
  (IV:gD K "costs" qI)
  (zW:gD K "parted_at" kh)
  (xq:gD K "most_steps" gw)
  (tx:gD K "fewest_slots" gH)
  (pj:gM K jM "__init__" "Chain.__init__" fC)
  (tD:gM K oi "__init__" "Run.__init__" gK)
  (zT:gD K "run_chain" ic)
  (zS:gD K "tables_of" ib)
  (qp:gD K "told_schedule" f7)
  (xw:gD K "again_from" jh)
  (nU:gM K bg "__init__" "Holder.__init__" eH)
  (lU:gM K bg "tell_chain" "Holder.tell_chain" cy)
  (nR:gM K bg "tell_run" "Holder.tell_run" eE)
  (tE:gM K bg "state" "Holder.state" gL)
  (nT:gM K bg "backward" "Holder.backward" eG)
  (pi:gM K bg "forward" "Holder.forward" fB)
  (tF:gM K bg "least" "Holder.least" gO)
  (ph:gM K bg "parting" "Holder.parting" fA)
  (uK:gM K bg "most" "Holder.most" iB)
  (uI:gM K bg "room" "Holder.room" iz)
  (nS:gM K bg "schedule" "Holder.schedule" eF)
  (tG:gM K bg "check" "Holder.check" gP)
  (uJ:gM K bg "play" "Holder.play" iA)
  (uL:gM K bg "auto" "Holder.auto" iC)
  (j2:gM K bg "turn_as_told" "Holder.turn_as_told" cU)
  (j1:gM K bg "turn_through" "Holder.turn_through" cT)
  (kR:gM K bg "count_parts" "Holder.count_parts" dj)
  (g8:gM K bg "fractions_refusal" "Holder.fractions_refusal" cb)
  (kQ:gM K bg "run_refusal" "Holder.run_refusal" di)
  (kS:gM K bg "all_columns" "Holder.all_columns" dl)
  (GT:gD K "within" rK)
  (tB:gD K "acts_refusal" gJ)
  (o7:gD K "told_fractions" fq)
  (E8:gD K "answers" oz)
  (zY:gD K "answer_of" ki)
  :∃fd:FuncData,(∀(s:Shared) (us:List Value),us.length=(["calls"]:List Str).length→BindsTo s fd ⟨us,[]⟩ ((["calls"]:List Str).zip us))∧∀base:Heap,base.NoSeer→K.In base→base.Ns mainGlobals mg→FnOk P w K mg base CX0 51 fa fd ["calls"] (FI K):=by
 obtain⟨M1,MQ,L1,Hk⟩:=LW
 obtain⟨Fw,EW,qA,qo,jT⟩:=qv
 obtain⟨JD,IH,Am,lh⟩:=zU
 obtain⟨JA,IE,Aj,lc⟩:=zR
 obtain⟨JE,II,An,li⟩:=zV
 obtain⟨EY,Dp,pD,fM⟩:=o8
 obtain⟨LR,K0,Hf,t4⟩:=GY
 obtain⟨GM,Fl,tO,hE⟩:=tz
 obtain⟨B0,Au,mW,d7⟩:=mV
 obtain⟨LQ,KZ,He,tZ⟩:=GX
 obtain⟨Fs,ET,qx,gj⟩:=qr
 obtain⟨LN,KU,Hb,tW⟩:=GU
 obtain⟨M2,MR,L3,Hl⟩:=LX
 obtain⟨Ku,Jv,Cz,mY⟩:=B7
 obtain⟨Kx,Jy,CC,m6⟩:=Ca
 obtain⟨LS,K1,Hg,t5⟩:=GZ
 obtain⟨Kw,Jx,CB,m5⟩:=B9
 obtain⟨EZ,Dq,pE,fN⟩:=o9
 obtain⟨IP,Hr,xM,jI⟩:=xp
 obtain⟨Hv,GG,uN,iJ⟩:=uH
 obtain⟨IM,Ho,xK,jG⟩:=xn
 obtain⟨Kv,Jw,CA,mZ⟩:=B8
 obtain⟨Kt,Ju,Cy,mX⟩:=B6
 obtain⟨LP,KY,Hd,tY⟩:=GW
 obtain⟨E1,Dr,pF,fO⟩:=pf
 obtain⟨Me,LK,Jh,xR⟩:=IU
 obtain⟨Ky,Jz,CD,m7⟩:=Cd
 obtain⟨K2,Ks,Fh,pJ⟩:=E7
 obtain⟨LO,KW,Hc,tX⟩:=GV
 obtain⟨IR,Ht,xO,jK⟩:=xu
 obtain⟨IN,Hq,xL,jH⟩:=xo
 obtain⟨Dx,BU,n8,ff⟩:=nQ
 obtain⟨M0,MP,L0,Hj⟩:=LV
 obtain⟨MT,Md,KN,CJ⟩:=KE
 obtain⟨MS,Mc,KM,CI⟩:=KD
 obtain⟨JG,IK,Ap,lm⟩:=zX
 obtain⟨Fu,EU,qy,gk⟩:=qt
 obtain⟨Fv,EV,qz,gl⟩:=qu
 obtain⟨Mf,LL,Ji,xS⟩:=IV
 obtain⟨JF,IJ,Ao,lj⟩:=zW
 obtain⟨IQ,Hs,xN,jJ⟩:=xq
 obtain⟨GL,Fk,tN,hC⟩:=tx
 obtain⟨E4,Du,pI,oV,jc⟩:=pj
 obtain⟨GO,Fn,tQ,sK,lu⟩:=tD
 obtain⟨JC,IG,Al,lg⟩:=zT
 obtain⟨JB,IF,Ak,ld⟩:=zS
 obtain⟨Fr,ES,qw,gi⟩:=qp
 obtain⟨IS,Hu,xP,jL⟩:=xw
 obtain⟨DB,BZ,og,nO,iu⟩:=nU
 obtain⟨Av,zI,lX,lT,dJ⟩:=lU
 obtain⟨Dy,BW,n9,nL,fg⟩:=nR
 obtain⟨GP,Fo,tR,sL,hJ⟩:=tE
 obtain⟨DA,BY,oe,nN,fi⟩:=nT
 obtain⟨E3,Dt,pH,oU,fQ⟩:=pi
 obtain⟨GQ,Fp,tS,sM,hU⟩:=tF
 obtain⟨E2,Ds,pG,oT,fP⟩:=ph
 obtain⟨Hy,GJ,uQ,uE,iM⟩:=uK
 obtain⟨Hw,GH,uO,uC,iK⟩:=uI
 obtain⟨Dz,BX,oa,nM,fh⟩:=nS
 obtain⟨GR,Fq,tT,sN,hW⟩:=tG
 obtain⟨Hx,GI,uP,uD,iL⟩:=uJ
 obtain⟨Hz,GK,uR,uF,iN⟩:=uL
 obtain⟨xX,xi,j5,jZ,cZ⟩:=j2
 obtain⟨xW,xh,j4,jY,cY⟩:=j1
 obtain⟨zK,xU,k7,kE,dA⟩:=kR
 obtain⟨sX,qR,g9,gW,cj⟩:=g8
 obtain⟨zJ,xT,k6,kD,dz⟩:=kQ
 obtain⟨zL,xV,k8,kF,dB⟩:=kS
 obtain⟨LM,KS,Ha,tU⟩:=GT
 obtain⟨GN,Fm,tP,hG⟩:=tB
 obtain⟨EX,Do,pC,fL⟩:=o7
 obtain⟨K3,BV,Fi,vN⟩:=E8
 obtain⟨JH,IL,Aq,lq⟩:=zY
 have e:=hfa.symm.trans (PySem.W.mg_of X G Fi)
 cases e
 obtain⟨ad,rfl,rfl,rfl,rfl,rfl,zO,rfl,rfl,rfl,rfl⟩:=MJ bL jS b8 cS dy [oN,oM,oK,oJ,oI,oH,oG,oF,oE,oC,mz,my,mx] iO jM oi bg
 refine⟨BV,fun s us hu=>(by obtain⟨oc,od,kV,doc,pm,an,cdv,ct,osl,rfl,lk,hcd⟩:=vN.ex; exact match us,hu with | [_],_=>.of_eq rfl),fun base hse hKb hGb=>?_⟩
 have T:Tx P K mg base ad:={
  seer:=hse
  tree:=htree
  p0:=PySem.W.mg_none_of X G p0
  Af:=PySem.W.mg_none_of X G Af
  DL:=PySem.W.mg_none_of X G DL
  eA:=PySem.W.mg_none_of X G eA
  du:=PySem.W.mg_none_of X G du
  xC:=PySem.W.mg_none_of X G xC
  Ae:=PySem.W.mg_none_of X G Ae
  tK:=PySem.W.mg_none_of X G tK
  cN:=PySem.W.mg_none_of X G cN
  DK:=PySem.W.mg_none_of X G DK
  qT:=PySem.W.mg_none_of X G qT
  Ac:=PySem.W.mg_none_of X G Ac
  kM:=let ⟨t,e⟩:=kM; ⟨t,PySem.W.mg_of X G e⟩
  oZ:=let ⟨t,e⟩:=oZ; ⟨t,PySem.W.mg_of X G e⟩
  mS:=let ⟨t,e⟩:=mS; ⟨t,PySem.W.mg_of X G e⟩
  sT:=let ⟨t,e⟩:=sT; ⟨t,PySem.W.mg_of X G e⟩
  fV:=PySem.W.mg_of X G fV
  fR:=fk fR (by show 4≤sizeLine; decide) (.cons ⟨_,rfl⟩ (.cons ⟨_,rfl⟩ (.cons ⟨_,rfl⟩ (.cons ⟨_,rfl⟩ (.nil)))))
  lM:=let ⟨t,e⟩:=lM; ⟨t,PySem.W.mg_of X G e⟩
  dW:=let ⟨t,e⟩:=dW; ⟨t,PySem.W.mg_of X G e⟩
  de:=let ⟨t,e⟩:=de; ⟨t,PySem.W.mg_of X G e⟩
  eW:=let ⟨t,e⟩:=eW; ⟨t,PySem.W.mg_of X G e⟩
  dX:=let ⟨t,e⟩:=dX; ⟨t,PySem.W.mg_of X G e⟩
  dF:=let ⟨t,e⟩:=dF; ⟨t,PySem.W.mg_of X G e⟩
  sU:=PySem.W.mg_of X G sU
  CN:=fk CN (by show 2≤sizeLine; decide) (.cons ⟨_,rfl⟩ (.cons ⟨_,rfl⟩ (.nil)))
  f6:=PySem.W.mg_of X G f6
  hZ:=fk hZ (by show 2≤sizeLine; decide) (.cons ⟨_,rfl⟩ (.cons ⟨_,rfl⟩ (.nil)))
  lO:=let ⟨t,e⟩:=lO; ⟨t,PySem.W.mg_of X G e⟩
  d6:=let ⟨t,e⟩:=d6; ⟨t,PySem.W.mg_of X G e⟩
  zE:=let ⟨t,e⟩:=zE; ⟨t,PySem.W.mg_of X G e⟩
  eY:=let ⟨t,e⟩:=eY; ⟨t,PySem.W.mg_of X G e⟩
  i5:=let ⟨t,e⟩:=i5; ⟨t,PySem.W.mg_of X G e⟩
  g7:=let ⟨t,e⟩:=g7; ⟨t,PySem.W.mg_of X G e⟩
  lN:=PySem.W.mg_of X G lN
  ly:=fk ly (by show 7≤sizeLine; decide) (.cons ⟨_,rfl⟩ (.cons ⟨_,rfl⟩ (.cons ⟨_,rfl⟩ (.cons ⟨_,rfl⟩ (.cons ⟨_,rfl⟩ (.cons ⟨_,rfl⟩ (.cons ⟨_,rfl⟩ (.nil))))))))
  eX:=let ⟨t,e⟩:=eX; ⟨t,PySem.W.mg_of X G e⟩
  cx:=let ⟨t,e⟩:=cx; ⟨t,PySem.W.mg_of X G e⟩
  fU:=let ⟨t,e⟩:=fU; ⟨t,PySem.W.mg_of X G e⟩
  b7:=let ⟨t,e⟩:=b7; ⟨t,PySem.W.mg_of X G e⟩
  cM:=let ⟨t,e⟩:=cM; ⟨t,PySem.W.mg_of X G e⟩
  bf:=let ⟨t,e⟩:=bf; ⟨t,PySem.W.mg_of X G e⟩
  dr:=let ⟨t,e⟩:=dr; ⟨t,PySem.W.mg_of X G e⟩
  eU:=let ⟨t,e⟩:=eU; ⟨t,PySem.W.mg_of X G e⟩
  kN:=let ⟨t,e⟩:=kN; ⟨t,PySem.W.mg_of X G e⟩
  ip:=let ⟨t,e⟩:=ip; ⟨t,PySem.W.mg_of X G e⟩
  cJ:=let ⟨t,e⟩:=cJ; ⟨t,PySem.W.mg_of X G e⟩
  g6:=let ⟨t,e⟩:=g6; ⟨t,PySem.W.mg_of X G e⟩
  gz:=let ⟨t,e⟩:=gz; ⟨t,PySem.W.mg_of X G e⟩
  gA:=let ⟨t,e⟩:=gA; ⟨t,PySem.W.mg_of X G e⟩
  gB:=let ⟨t,e⟩:=gB; ⟨t,PySem.W.mg_of X G e⟩
  jz:=let ⟨t,e⟩:=jz; ⟨t,PySem.W.mg_of X G e⟩
  cK:=let ⟨t,e⟩:=cK; ⟨t,PySem.W.mg_of X G e⟩
  dq:=let ⟨t,e⟩:=dq; ⟨t,PySem.W.mg_of X G e⟩
  io:=let ⟨t,e⟩:=io; ⟨t,PySem.W.mg_of X G e⟩
  bS:=let ⟨t,e⟩:=bS; ⟨t,PySem.W.mg_of X G e⟩
  bo:=let ⟨t,e⟩:=bo; ⟨t,PySem.W.mg_of X G e⟩
  qQ:=let ⟨t,e⟩:=qQ; ⟨t,PySem.W.mg_of X G e⟩
  Dm:=let ⟨t,e⟩:=Dm; ⟨t,PySem.W.mg_of X G e⟩
  qM:=let ⟨t,e⟩:=qM; ⟨t,PySem.W.mg_of X G e⟩
  jA:=let ⟨t,e⟩:=jA; ⟨t,PySem.W.mg_of X G e⟩
  lP:=let ⟨t,e⟩:=lP; ⟨t,PySem.W.mg_of X G e⟩
  qO:=let ⟨t,e⟩:=qO; ⟨t,PySem.W.mg_of X G e⟩
  qN:=let ⟨t,e⟩:=qN; ⟨t,PySem.W.mg_of X G e⟩
  xc:=let ⟨t,e⟩:=xc; ⟨t,PySem.W.mg_of X G e⟩
  xa:=let ⟨t,e⟩:=xa; ⟨t,PySem.W.mg_of X G e⟩
  jy:=let ⟨t,e⟩:=jy; ⟨t,PySem.W.mg_of X G e⟩
  qP:=let ⟨t,e⟩:=qP; ⟨t,PySem.W.mg_of X G e⟩
  xb:=let ⟨t,e⟩:=xb; ⟨t,PySem.W.mg_of X G e⟩
  i4:=PySem.W.mg_of X G i4
  iS:=by rw [zO]; exact fk iS (by show 13≤sizeLine; decide) (.cons rfl (.cons rfl (.cons rfl (.cons rfl (.cons rfl (.cons rfl (.cons rfl (.cons rfl (.cons rfl (.cons rfl (.cons rfl (.cons rfl (.cons rfl (.nil))))))))))))))
  nE:=by rw [zO]; exact .cons (fk D8 (by show 2≤sizeLine; decide) (.cons ⟨_,rfl⟩ (.cons ⟨_,rfl⟩ (.nil)))) (.cons (fk D7 (by show 2≤sizeLine; decide) (.cons ⟨_,rfl⟩ (.cons ⟨_,rfl⟩ (.nil)))) (.cons (fk D6 (by show 2≤sizeLine; decide) (.cons ⟨_,rfl⟩ (.cons ⟨_,rfl⟩ (.nil)))) (.cons (fk D5 (by show 2≤sizeLine; decide) (.cons ⟨_,rfl⟩ (.cons ⟨_,rfl⟩ (.nil)))) (.cons (fk D4 (by show 2≤sizeLine; decide) (.cons ⟨_,rfl⟩ (.cons ⟨_,rfl⟩ (.nil)))) (.cons (fk D3 (by show 2≤sizeLine; decide) (.cons ⟨_,rfl⟩ (.cons ⟨_,rfl⟩ (.nil)))) (.cons (fk D2 (by show 2≤sizeLine; decide) (.cons ⟨_,rfl⟩ (.cons ⟨_,rfl⟩ (.nil)))) (.cons (fk D1 (by show 2≤sizeLine; decide) (.cons ⟨_,rfl⟩ (.cons ⟨_,rfl⟩ (.nil)))) (.cons (fk D0 (by show 2≤sizeLine; decide) (.cons ⟨_,rfl⟩ (.cons ⟨_,rfl⟩ (.nil)))) (.cons (fk DZ (by show 2≤sizeLine; decide) (.cons ⟨_,rfl⟩ (.cons ⟨_,rfl⟩ (.nil)))) (.cons (fk AQ (by show 2≤sizeLine; decide) (.cons ⟨_,rfl⟩ (.cons ⟨_,rfl⟩ (.nil)))) (.cons (fk AO (by show 2≤sizeLine; decide) (.cons ⟨_,rfl⟩ (.cons ⟨_,rfl⟩ (.nil)))) (.cons (fk AN (by show 2≤sizeLine; decide) (.cons ⟨_,rfl⟩ (.cons ⟨_,rfl⟩ (.nil)))) (.nil)))))))))))))
  bj:=Gs.1
  n_Desk_steps:=uz
  n_Desk_slots:=uA
  n_Desk_hand:=wR
  n_Desk_left:=wQ
  n_Desk_stepped:=qm
  n_Desk_turned:=su
  bU:=Dg.1
  n_Chain_parts:=sw
  n_Chain_lines:=sy
  n_Chain_outs:=uB
  ci:=Jt.1
  n_Run_steps:=wO
  n_Run_states:=uw
  n_Run_worked:=uq
  n_Run_fault:=wP
  n_Run_tables:=uu
  aH:=zw.1
  n_Holder_chain:=ql
  n_Holder_run:=ux
  n_Holder_columns:=nF
 }
 have sQ:=Il (P:=P) (w:=w) (base:=base) X G Hh zw og nO (iu.binds (ps:=["self"]) fun _ _ _ _ _ _=>usS fun _=>us0 rfl) (sj T iu)
 have aX:=b6 (P:=P) (w:=w) (base:=base) X G Ha tU (tU.binds (ps:=["number","low","high"]) fun _ _ _ _ _ _=>usS fun _=>usS fun _=>usS fun _=>us0 rfl) (Ek T tU)
 have iD:=b6 (P:=P) (w:=w) (base:=base) X G uN iJ (iJ.binds (ps:=["line"]) fun _ _ _ _ _ _=>usS fun _=>us0 rfl) (sf T iJ)
 have vA:=b6 (P:=P) (w:=w) (base:=base) X G L1 Hk (Hk.binds (ps:=["numbers","lengths"]) fun _ _ _ _ _ _=>usS fun _=>usS fun _=>us0 rfl) (Kf T Hk)
 have ju:=b6 (P:=P) (w:=w) (base:=base) X G xM jI (jI.binds (ps:=["numbers"]) fun _ _ _ _ _ _=>usS fun _=>us0 rfl) (uh T jI iD vA)
 have js:=b6 (P:=P) (w:=w) (base:=base) X G xK jG (jG.binds (ps:=["lines","inputs"]) fun _ _ _ _ _ _=>usS fun _=>usS fun _=>us0 rfl) (ue T jG)
 have w8:=Il (P:=P) (w:=w) (base:=base) X G Jj Dg pI oV (jc.binds (ps:=["self","parts","lines","outs"]) fun _ _ _ _ _ _=>usS fun _=>usS fun _=>usS fun _=>usS fun _=>us0 rfl) (um T jc)
 have dI:=jo (P:=P) (w:=w) (base:=base) T.aH lX lT dJ (dJ.binds (ps:=["self","parts","numbers","outs"]) fun _ _ _ _ _ _=>usS fun _=>usS fun _=>usS fun _=>usS fun _=>us0 rfl) (uf T dJ aX ju js w8)
 have bi:=b6 (P:=P) (w:=w) (base:=base) X G mW d7 (d7.binds (ps:=["a","b"]) fun _ _ _ _ _ _=>usS fun _=>usS fun _=>us0 rfl) (Kd d7)
 have bR:=b6 (P:=P) (w:=w) (base:=base) X G He tZ (tZ.binds (ps:=["numerator","denominator"]) fun _ _ _ _ _ _=>usS fun _=>usS fun _=>us0 rfl) (Kc T tZ bi)
 have a9:=b6 (P:=P) (w:=w) (base:=base) X G pE fN (fN.binds (ps:=["numbers","count"]) fun _ _ _ _ _ _=>usS fun _=>usS fun _=>us0 rfl) (Ib T fN bR)
 have GA:=Il (P:=P) (w:=w) (base:=base) X G L4 Jt tQ sK (lu.binds (ps:=["self","steps","start"]) fun _ _ _ _ _ _=>usS fun _=>usS fun _=>usS fun _=>us0 rfl) (zl T lu)
 have fG:=b6 (P:=P) (w:=w) (base:=base) X G CB m5 (m5.binds (ps:=["a"]) fun _ _ _ _ _ _=>usS fun _=>us0 rfl) (zh m5)
 have Gz:=b6 (P:=P) (w:=w) (base:=base) X G L3 Hl (Hl.binds (ps:=["a","b"]) fun _ _ _ _ _ _=>usS fun _=>usS fun _=>us0 rfl) (Kg Hl bR)
 have mP:=b6 (P:=P) (w:=w) (base:=base) X G Cz mY (mY.binds (ps:=["a","b"]) fun _ _ _ _ _ _=>usS fun _=>usS fun _=>us0 rfl) (ze mY bR)
 have fH:=b6 (P:=P) (w:=w) (base:=base) X G CC m6 (m6.binds (ps:=["a","b"]) fun _ _ _ _ _ _=>usS fun _=>usS fun _=>us0 rfl) (zi m6 bR)
 have i0:=b6 (P:=P) (w:=w) (base:=base) X G Hg t5 (t5.binds (ps:=["a","b"]) fun _ _ _ _ _ _=>usS fun _=>usS fun _=>us0 rfl) (Ep t5 bR)
 have mO:=b6 (P:=P) (w:=w) (base:=base) X G Cy mX (mX.binds (ps:=["line","values","inputs"]) fun _ _ _ _ _ _=>usS fun _=>usS fun _=>usS fun _=>us0 rfl) (zb T mX bR fG Gz mP fH i0)
 have iZ:=b6 (P:=P) (w:=w) (base:=base) X G Hb tW (tW.binds (ps:=["fraction"]) fun _ _ _ _ _ _=>usS fun _=>us0 rfl) (El T tW)
 have mQ:=b6 (P:=P) (w:=w) (base:=base) X G CA mZ (mZ.binds (ps:=["lines","inputs"]) fun _ _ _ _ _ _=>usS fun _=>usS fun _=>us0 rfl) (zg T mZ mO iZ)
 have kH:=b6 (P:=P) (w:=w) (base:=base) X G Al lg (lg.binds (ps:=["chain","steps","start"]) fun _ _ _ _ _ _=>usS fun _=>usS fun _=>usS fun _=>us0 rfl) (wF T lg GA mQ)
 have eR:=jo (P:=P) (w:=w) (base:=base) T.aH n9 nL fg (fg.binds (ps:=["self","steps","numbers"]) fun _ _ _ _ _ _=>usS fun _=>usS fun _=>usS fun _=>us0 rfl) (zd T fg aX a9 kH)
 have bG:=jo (P:=P) (w:=w) (base:=base) T.aH k6 kD dz (dz.binds (ps:=["self"]) fun _ _ _ _ _ _=>usS fun _=>us0 rfl) (sg T dz)
 have eP:=b6 (P:=P) (w:=w) (base:=base) X G Hd tY (tY.binds (ps:=["fractions"]) fun _ _ _ _ _ _=>usS fun _=>us0 rfl) (En T tY)
 have gc:=b6 (P:=P) (w:=w) (base:=base) X G qx gj (gj.binds (ps:=["numerator","denominator","most"]) fun _ _ _ _ _ _=>usS fun _=>usS fun _=>usS fun _=>us0 rfl) (Ig T gj iZ)
 have bx:=b6 (P:=P) (w:=w) (base:=base) X G pC fL (fL.binds (ps:=["row"]) fun _ _ _ _ _ _=>usS fun _=>us0 rfl) (ny T fL gc)
 have gZ:=jo (P:=P) (w:=w) (base:=base) T.aH tR sL hJ (hJ.binds (ps:=["self","number"]) fun _ _ _ _ _ _=>usS fun _=>usS fun _=>us0 rfl) (Gc T hJ aX bG eP bx)
 have aZ:=jo (P:=P) (w:=w) (base:=base) T.aH k7 kE dA (dA.binds (ps:=["self"]) fun _ _ _ _ _ _=>usS fun _=>us0 rfl) (sh T dA)
 have aL:=jo (P:=P) (w:=w) (base:=base) T.aH g9 gW cj (cj.binds (ps:=["self","fractions"]) fun _ _ _ _ _ _=>usS fun _=>usS fun _=>us0 rfl) (ku T cj bG)
 have sO:=b6 (P:=P) (w:=w) (base:=base) X G Hc tX (tX.binds (ps:=["line","number","values"]) fun _ _ _ _ _ _=>usS fun _=>usS fun _=>usS fun _=>us0 rfl) (Em T tX i0 fG fH)
 have ca:=b6 (P:=P) (w:=w) (base:=base) X G pF fO (fO.binds (ps:=["a","b"]) fun _ _ _ _ _ _=>usS fun _=>usS fun _=>us0 rfl) (nB T fO bi)
 have oX:=b6 (P:=P) (w:=w) (base:=base) X G Fh pJ (pJ.binds (ps:=["numerators","denominator"]) fun _ _ _ _ _ _=>usS fun _=>usS fun _=>us0 rfl) (Br T pJ bi)
 have mR:=b6 (P:=P) (w:=w) (base:=base) X G CD m7 (m7.binds (ps:=["a","b"]) fun _ _ _ _ _ _=>usS fun _=>usS fun _=>us0 rfl) (zk T m7 ca oX)
 have w6:=b6 (P:=P) (w:=w) (base:=base) X G Jh xR (xR.binds (ps:=["row","fraction"]) fun _ _ _ _ _ _=>usS fun _=>usS fun _=>us0 rfl) (Gd T xR)
 have jw:=b6 (P:=P) (w:=w) (base:=base) X G xO jK (jK.binds (ps:=["number","lines","values","rows","parts"]) fun _ _ _ _ _ _=>usS fun _=>usS fun _=>usS fun _=>usS fun _=>usS fun _=>us0 rfl) (uj T jK sO mR w6)
 have eQ:=b6 (P:=P) (w:=w) (base:=base) X G n8 ff (ff.binds (ps:=["denominator","row"]) fun _ _ _ _ _ _=>usS fun _=>usS fun _=>us0 rfl) (mF T ff)
 have jt:=b6 (P:=P) (w:=w) (base:=base) X G xL jH (jH.binds (ps:=["chain","values"]) fun _ _ _ _ _ _=>usS fun _=>usS fun _=>us0 rfl) (ug T jH jw ca eQ)
 have ec:=b6 (P:=P) (w:=w) (base:=base) X G Ak ld (ld.binds (ps:=["chain","run"]) fun _ _ _ _ _ _=>usS fun _=>usS fun _=>us0 rfl) (wE T ld jt)
 have vz:=b6 (P:=P) (w:=w) (base:=base) X G L0 Hj (Hj.binds (ps:=["xs","ys"]) fun _ _ _ _ _ _=>usS fun _=>usS fun _=>us0 rfl) (Ke T Hj)
 have kI:=b6 (P:=P) (w:=w) (base:=base) X G Ap lm (lm.binds (ps:=["table","k"]) fun _ _ _ _ _ _=>usS fun _=>usS fun _=>us0 rfl) (wJ T lm)
 have BQ:=b6 (P:=P) (w:=w) (base:=base) X G KM CI (CI.binds (ps:=["weights","table"]) fun _ _ _ _ _ _=>usS fun _=>usS fun _=>us0 rfl) (H0 T CI vz kI)
 have bB:=jo (P:=P) (w:=w) (base:=base) T.aH j4 jY cY (cY.binds (ps:=["self","order","weights"]) fun _ _ _ _ _ _=>usS fun _=>usS fun _=>usS fun _=>us0 rfl) (qg T cY ec eP BQ bx)
 have eT:=jo (P:=P) (w:=w) (base:=base) T.aH oe nN fi (fi.binds (ps:=["self","numbers"]) fun _ _ _ _ _ _=>usS fun _=>usS fun _=>us0 rfl) (zj T fi a9 aZ aL bB)
 have BR:=b6 (P:=P) (w:=w) (base:=base) X G KN CJ (CJ.binds (ps:=["direction","table"]) fun _ _ _ _ _ _=>usS fun _=>usS fun _=>us0 rfl) (Ic T CJ vz)
 have fJ:=jo (P:=P) (w:=w) (base:=base) T.aH pH oU fQ (fQ.binds (ps:=["self","numbers"]) fun _ _ _ _ _ _=>usS fun _=>usS fun _=>us0 rfl) (Bt T fQ a9 aZ aL ec eP BR bx)
 have lK:=b6 (P:=P) (w:=w) (base:=base) X G Ji xS (xS.binds (ps:=["n","before","column"]) fun _ _ _ _ _ _=>usS fun _=>usS fun _=>usS fun _=>us0 rfl) (Gf T xS)
 have gf:=b6 (P:=P) (w:=w) (base:=base) X G qz gl (gl.binds (ps:=["before"]) fun _ _ _ _ _ _=>usS fun _=>us0 rfl) (oR T gl lK)
 have gd:=b6 (P:=P) (w:=w) (base:=base) X G qy gk (gk.binds (ps:=[]) fun _ _ _ _ _ _=>us0 rfl) (oQ T gk gf)
 have aI:=jo (P:=P) (w:=w) (base:=base) T.aH k8 kF dB (dB.binds (ps:=["self"]) fun _ _ _ _ _ _=>usS fun _=>us0 rfl) (si T dB gd)
 have g0:=jo (P:=P) (w:=w) (base:=base) T.aH tS sM hU (hU.binds (ps:=["self","steps","slots"]) fun _ _ _ _ _ _=>usS fun _=>usS fun _=>usS fun _=>us0 rfl) (Ge T hU aX aI)
 have ek:=b6 (P:=P) (w:=w) (base:=base) X G Ao lj (lj.binds (ps:=["n","c","columns"]) fun _ _ _ _ _ _=>usS fun _=>usS fun _=>usS fun _=>us0 rfl) (wI T lj lK)
 have fI:=jo (P:=P) (w:=w) (base:=base) T.aH pG oT fP (fP.binds (ps:=["self","steps","slots"]) fun _ _ _ _ _ _=>usS fun _=>usS fun _=>usS fun _=>us0 rfl) (Bs T fP aX aI ek)
 have jv:=b6 (P:=P) (w:=w) (base:=base) X G xN jJ (jJ.binds (ps:=["c","t","columns"]) fun _ _ _ _ _ _=>usS fun _=>usS fun _=>usS fun _=>us0 rfl) (ui T jJ)
 have iG:=jo (P:=P) (w:=w) (base:=base) T.aH uQ uE iM (iM.binds (ps:=["self","slots","limit"]) fun _ _ _ _ _ _=>usS fun _=>usS fun _=>usS fun _=>us0 rfl) (Ie T iM aX aI jv)
 have gX:=b6 (P:=P) (w:=w) (base:=base) X G tN hC (hC.binds (ps:=["n","t","columns"]) fun _ _ _ _ _ _=>usS fun _=>usS fun _=>usS fun _=>us0 rfl) (qi T hC)
 have iE:=jo (P:=P) (w:=w) (base:=base) T.aH uO uC iK (iK.binds (ps:=["self","steps","limit"]) fun _ _ _ _ _ _=>usS fun _=>usS fun _=>usS fun _=>us0 rfl) (Ia T iK aX aI gX)
 have jx:=b6 (P:=P) (w:=w) (base:=base) X G xP jL (jL.binds (ps:=["slot","length"]) fun _ _ _ _ _ _=>usS fun _=>usS fun _=>us0 rfl) (uk T jL)
 have cv:=b6 (P:=P) (w:=w) (base:=base) X G qw gi (gi.binds (ps:=["steps","slots","columns"]) fun _ _ _ _ _ _=>usS fun _=>usS fun _=>usS fun _=>us0 rfl) (oP T gi jx ek)
 have kG:=b6 (P:=P) (w:=w) (base:=base) X G Aj lc (lc.binds (ps:=["acts"]) fun _ _ _ _ _ _=>usS fun _=>us0 rfl) (wD T lc)
 have eS:=jo (P:=P) (w:=w) (base:=base) T.aH oa nM fh (fh.binds (ps:=["self","steps","slots"]) fun _ _ _ _ _ _=>usS fun _=>usS fun _=>usS fun _=>us0 rfl) (zf T fh aX aI cv kG)
 have ee:=b6 (P:=P) (w:=w) (base:=base) X G Am lh (lh.binds (ps:=["numbers"]) fun _ _ _ _ _ _=>usS fun _=>us0 rfl) (wG T lh vA)
 have cA:=b6 (P:=P) (w:=w) (base:=base) X G tP hG (hG.binds (ps:=["acts"]) fun _ _ _ _ _ _=>usS fun _=>us0 rfl) (qk T hG)
 have oY:=Il (P:=P) (w:=w) (base:=base) X G KO Gs qA qo (jT.binds (ps:=["self","steps","slots"]) fun _ _ _ _ _ _=>usS fun _=>usS fun _=>usS fun _=>us0 rfl) (wL T jT)
 have fF:=b6 (P:=P) (w:=w) (base:=base) X G pD fM (fM.binds (ps:=["desk","act"]) fun _ _ _ _ _ _=>usS fun _=>usS fun _=>us0 rfl) (nz T fM)
 have sP:=b6 (P:=P) (w:=w) (base:=base) X G Hf t4 (t4.binds (ps:=["desk","act"]) fun _ _ _ _ _ _=>usS fun _=>usS fun _=>us0 rfl) (Eo T t4)
 have ef:=b6 (P:=P) (w:=w) (base:=base) X G An li (li.binds (ps:=["desk","acts"]) fun _ _ _ _ _ _=>usS fun _=>usS fun _=>us0 rfl) (wH T li fF sP)
 have gY:=b6 (P:=P) (w:=w) (base:=base) X G tO hE (hE.binds (ps:=["desk"]) fun _ _ _ _ _ _=>usS fun _=>us0 rfl) (qj T hE)
 have g4:=jo (P:=P) (w:=w) (base:=base) T.aH tT sN hW (hW.binds (ps:=["self","steps","slots","act_numbers"]) fun _ _ _ _ _ _=>usS fun _=>usS fun _=>usS fun _=>usS fun _=>us0 rfl) (Gg T hW aX ee cA oY ef gY)
 have bC:=jo (P:=P) (w:=w) (base:=base) T.aH j5 jZ cZ (cZ.binds (ps:=["self","acts","slots","weights"]) fun _ _ _ _ _ _=>usS fun _=>usS fun _=>usS fun _=>usS fun _=>us0 rfl) (qh T cZ oY ef bB)
 have iF:=jo (P:=P) (w:=w) (base:=base) T.aH uP uD iL (iL.binds (ps:=["self","slots","act_numbers","numbers"]) fun _ _ _ _ _ _=>usS fun _=>usS fun _=>usS fun _=>usS fun _=>us0 rfl) (Id T iL aX ee cA a9 aZ aL bC)
 have iH:=jo (P:=P) (w:=w) (base:=base) T.aH uR uF iN (iN.binds (ps:=["self","slots","numbers"]) fun _ _ _ _ _ _=>usS fun _=>usS fun _=>usS fun _=>us0 rfl) (Ih T iN aX cv aI a9 aZ aL bC)
 have kJ:=b6 (P:=P) (w:=w) (base:=base) X G Aq lq (lq.binds (ps:=["holder","number","arguments"]) fun _ _ _ _ _ _=>usS fun _=>usS fun _=>usS fun _=>us0 rfl) (frame (wK T lq dI eR gZ eT fJ g0 fI iG iE eS g4 iF iH))
 exact Bu T vN sQ kJ
end B
set_option genInjectivity false in set_option genSizeOf false in set_option genCtorIdx false in structure PySem.W.Fast:Prop where(tw10047072189897539561 tw1007150802673733005 tw10083013205660834326 tw10101555508725365963 tw10137352676800828136 tw10146038498701723298 tw10169359583532117505 tw10177180444551395061 tw10210704500703458803 tw10265023492210390894 tw10273417607973547467 tw10275073749979402679 tw10277441420175402980 tw10287378684150814587 tw10295027923358962640 tw10342889758039087180 tw10356053880341653799 tw10367464351785834683 tw10390679870876768258 tw10412980715313556657 tw10418920916127076883 tw10433532220152638293 tw10437497355338542535 tw10448130015012300339 tw1049175284510256772 tw1050068285267620496 tw10538755174066696463 tw10545382949955719267 tw10591009440023819442 tw10627717985114446405 tw10666684713424827415 tw10669267856958339148 tw10737834570588899606 tw10774325550070833018 tw10800470981679591096 tw10829172895729796963 tw10858312668912594382 tw10876014528020412133 tw10894929773667151816 tw10904728750605849917 tw10911405270944619964 tw10920166019338253421 tw10950097654744299597 tw10952683727300014899 tw1096521340050422416 tw11025931026803670598 tw11047047654053722218 tw11055604471808196601 tw11089709809215455535 tw11099796463359328998 tw11105500159437957981 tw11132538251974188403 tw11174068467455812973 tw11180649304124298216 tw11185342740878878157 tw11202434657572511535 tw11207471175898804632 tw11237357582544236676 tw11271813998505686730 tw11277399239328730639 tw11297320754917918416 tw11309142186266364718 tw11316175606619081171 tw11334148594347272043 tw11388377906849236148 tw11402919369382281093 tw11457731149460863476 tw1146257235754408253 tw11464009205806457503 tw11628839710865551817 tw116808054308906980 tw11740318399636384395 tw11749373097899461352 tw11772684587555538215 tw11809298387698634900 tw11822941768678767736 tw11832372530266172886 tw1191390414560884459 tw11948423940757473840 tw11964411504135328048 tw11989021633539855948 tw12123004770809760271 tw12142045481592831308 tw121482871122793121 tw12174467000641073715 tw12193848474148516932 tw12223569278943805379 tw12228827025167695713 tw12368452511436551701 tw12382762781545860253 tw12426989100342632081 tw1246275979653380519 tw12483337284826074707 tw12500785694802242154 tw1254846293110583948 tw12555962022102619938 tw12569578107211277530 tw12596774313611727752 tw12614367794510097197 tw12663180804927481902 tw12731406278365782115 tw12762388754947448500 tw12796849351777974682 tw12893233925358705565 tw12948831925351522502 tw13036648958486719931 tw13039787893057275194 tw13069597358419064906 tw13073988277721535776 tw13108766045623371567 tw13164562821328206670 tw13193239252845042095 tw131967537747653680 tw13218343106152421197 tw1323883966259540160 tw13327185575820064238 tw13418260271584317784 tw13431963041195091611 tw13444524797668943484 tw13448895960567728117 tw1351362213527690461 tw13546282056941950198 tw13587833305024536016 tw13641621969884284906 tw13676295803519912754 tw13722747126759755252 tw1374013200627688075 tw13760939932082608024 tw13768653416212766639 tw13793511836311611773 tw13834618626195475020 tw1384264627014140164 tw13857598735259039903 tw13896981335521829112 tw13983755490456515291 tw14031682306660801563 tw14060387342837512459 tw1408245656374550060 tw14155049966139083689 tw14200516363466232876 tw14306792470205053484 tw14321636982153658464 tw1433364830489939195 tw14337166066641607191 tw14341299745994210381 tw14350789977541090570 tw14419701166632824239 tw14430602368086834136 tw14431786044036559673 tw1444380174783103744 tw1446338517437816103 tw14472548091077431587 tw14478114339490218795 tw14544486554695578801 tw14545138752163527211 tw14566168134473508913 tw14580143437405019289 tw14630228211284554921 tw14631538071351637398 tw14684829627276619068 tw1474184900394879096 tw14888056748124570555 tw14975152786723627864 tw15000100998429789237 tw15021379077099110075 tw150468364754599024 tw15055364872754714840 tw15109813938877014920 tw15122124245534737156 tw15136223266634319416 tw15142240869354078356 tw15188816905334781533 tw15226727328023048884 tw15259279998477499150 tw1526724145970401566 tw15268819738197948382 tw15294593146931285541 tw15318201723461018966 tw1534887356543700847 tw15374474435072862446 tw15388612057936626630 tw15428201324258185741 tw15460509501398019432 tw15497655942723457977 tw1554101348883465557 tw15541079574699307018 tw1555887858831981192 tw15588651883344239305 tw15637226350035528849 tw1568284606329882852 tw15695112506880756353 tw15708168855691955206 tw15714328888896557196 tw15781360175716617376 tw15783692582282194780 tw15808613648552148411 tw15831633214648935478 tw15871523722392321228 tw15878592415828604775 tw15910597154606263760 tw15919598417139023893 tw15922736540354292473 tw15951573280899398028 tw15990378685610994232 tw15994703284422002197 tw16017351614817564448 tw16017812343583087164 tw16049804869715584695 tw16054844003839591978 tw16109347924431082829 tw16123239070226130592 tw16174169865622736451 tw16190358023526140647 tw16204488600109086297 tw16306888670912329118 tw16322630861229143259 tw16328449892655082392 tw16331377746055288074 tw16353214415577264413 tw16361129041443575252 tw16363457151819414291 tw16473950623536881973 tw16522268963121609831 tw16528898853449216429 tw16541159454460502016 tw16552804768885964705 tw16637397075166096364 tw16672823898651374654 tw16695509478494779728 tw16741221018008841971 tw16760194888103260231 tw16778452180277094813 tw1679853149770657766 tw16814023095484228406 tw16859944699210304015 tw16874278849600416941 tw16900256208621118789 tw16925278617218676650 tw16934538898876482105 tw16939562503348108805 tw16953727442006647043 tw16954534909930919951 tw16960969537442576761 tw16998363620136853090 tw17016593831377113946 tw17022837104549583289 tw17114924569023113157 tw17115740212408226365 tw17138265110312685133 tw17139334429268715174 tw17161684412000805576 tw17166466596150978863 tw17171475782786203414 tw17208117515938651632 tw17247543561342138426 tw17294943315216371574 tw17332428055198713714 tw17375831524086022501 tw17464454276794068664 tw17474771439845431456 tw17479354655678220865 tw17499847886416998485 tw17572831269518875555 tw17576880187128527625 tw17588035265750942175 tw17619609349055939736 tw17682267806879227534 tw17730438714986641865 tw17751462315625001840 tw17753916020691149807 tw17765356154443334214 tw17766075823729168694 tw17775325491451028639 tw17781069176385792310 tw17794989643681614694 tw17808139594881965545 tw17830660948347936040 tw17837851473444891958 tw17838452248607761094 tw17866756070181068608 tw17867665326395738406 tw17869185222280974023 tw17889162962713295075 tw18026244319672224016 tw18075275864628016096 tw18080803040597600164 tw18082675636816953951 tw18109114649586243878 tw18227372087690466201 tw18320382228267956814 tw18353909537195234309 tw18357553500978936317 tw1841760018613851977 tw18421932732330894934 tw1876264373414541853 tw1899267055065042307 tw190665445453685567 tw1918390347345425466 tw1933616144085054579 tw1996436648559796955 tw2000030296339822576 tw2092791279540459584 tw2132961665113898854 tw2141603201196279294 tw2157976226584072830 tw2181629674163257055 tw2231847574271891494 tw2311771140463260683 tw2313516429052893615 tw2319648674396428120 tw2337481955424182598 tw2339325012340100198 tw2347086031073147842 tw2356217069277454667 tw237386409114543057 tw2375666473730403002 tw2430197614864399177 tw245897962096962317 tw2474440183402837405 tw2510214004764487078 tw2514677387907459004 tw264404074184841445 tw2668503853259895409 tw2707788151390117432 tw2715405424453618196 tw2722168758403318824 tw2759207286608390932 tw276055048887774027 tw282398354276133849 tw2827637997097427731 tw2896679195493382968 tw2904739097067927515 tw2950447667546206485 tw2965378059698641087 tw2987024184020493993 tw3018260306677485276 tw3068564500022643696 tw3084352506934451312 tw3141628336792724866 tw3188280093169269903 tw3239186077607558311 tw3298023882455922369 tw333396255098402658 tw3340157478942366452 tw3358395393959699186 tw3359009611181069828 tw339172272858738096 tw346296664551984651 tw3520819868554894725 tw3529185480447630008 tw3536816113364036577 tw3566751560790137241 tw3578201018960971714 tw3657959723648957769 tw3750885710837591234 tw3769916360416468530 tw3796055728399466938 tw3805621508263559322 tw3810211653494497504 tw3844410176764852914 tw384879698626535199 tw3898948846319647428 tw3927649287314745712 tw4012892408613122079 tw401960129796217019 tw402933800348805926 tw4090546426836329897 tw4146456477735839506 tw4159088941523552746 tw4179706368647335324 tw4197918082664939296 tw4254684537734758423 tw4265852287941986030 tw4273719917678323813 tw4293711948196697027 tw4304951885179108522 tw4323503886604972541 tw4364460792466381266 tw4365341872826424312 tw4396752786069879000 tw4437968957559457151 tw4439946413373335188 tw4441208845700622628 tw4456286044112317203 tw4531346525199686207 tw45617478749765836 tw4590812350817282622 tw4593641143476775788 tw4597792607653745936 tw4608654692622633806 tw4623766029890128918 tw4718796360191408334 tw4782119196178233748 tw4788994440229235312 tw4843083351300269422 tw4846599176674831085 tw4884172172834642233 tw4885334739690891740 tw4958411820444080407 tw5000227306797765581 tw5016191099639968157 tw5031140146545608528 tw50400204399675094 tw5120003559281179422 tw5153534056680215699 tw5182939227518961093 tw520429547177040369 tw5222566779029643942 tw5282256578730304965 tw529520660915872593 tw5306354033735624906 tw5343056999239496460 tw5353208527854134540 tw5399642772863833297 tw5414293551817656656 tw5475109338483818849 tw5525310653060183079 tw5547339896825526573 tw5576413736278529873 tw5578767360402398328 tw562687969778147330 tw5642239435284032800 tw5734347915574920049 tw5799867508590511801 tw5906031290016324181 tw5915316613277412136 tw5935578236723778900 tw5954168705390725913 tw6001573109653345840 tw6060614690457966795 tw6085599868618084582 tw6098781683742894848 tw6140906421784654398 tw6150234680162876613 tw6170658726302184382 tw6267934683635173653 tw628816998433235286 tw6292089269753362046 tw6382604790810636480 tw6385133535507117591 tw6395554384731455477 tw6399898719153915006 tw6409294829506250517 tw6458290498964395521 tw6500907428896583524 tw6544492157470138896 tw6553009093138945963 tw6555175748323231403 tw6563578095580260327 tw6569712156188623953 tw65699224513575646 tw6596061359446310438 tw6718034230847082985 tw6722909691665060015 tw6733369334617933223 tw6765304793201753031 tw679638700548602312 tw6822554132154514511 tw6832256284433769683 tw684426691932618176 tw685046418400157441 tw68930181648328583 tw6912473095692134846 tw6922879758357013505 tw6934781283661044805 tw6957640652551785759 tw7035571268395363248 tw7090327691853052417 tw71067956564346047 tw7147188535717033660 tw7168344676478778877 tw7226582289114722872 tw7263440425580821377 tw7282749078571140588 tw7283265105773080906 tw7310182976491051032 tw7317508310638842697 tw7327048979942232999 tw7367209689442258985 tw7425268046473620706 tw7429292359952576886 tw7528627251967813933 tw7530600130882426587 tw753313827238928107 tw7545867642552184728 tw7547939048550219207 tw7567095640385024635 tw7588717476388914751 tw762541607922603129 tw7717078523317972023 tw7721091595877958051 tw7769416420022640665 tw7831804704910503066 tw7865695526475433610 tw7880351113618005665 tw7928942366928799443 tw7933500655024408072 tw7959850965617638868 tw7982805055166507171 tw7996286094683107788 tw8034712508900250340 tw8105059421812688285 tw8132800758638837777 tw8153477876081517668 tw8184163206118887826 tw8245036256544506217 tw8265534445201759936 tw8285723609080540779 tw8345860220997377632 tw8357810345390255327 tw8404147748903051585 tw8417126867007882241 tw8434344629286042194 tw847279760166755241 tw8480143427726666538 tw8511522473900149300 tw8537631507921746236 tw8547488374284360731 tw8585327276813912897 tw8682413671759649354 tw87473145374722624 tw8751634687722103336 tw879529904365426582 tw880702941993125506 tw8894566649843196814 tw8895817411542242264 tw889685496848948703 tw8903713934476225857 tw892792997221764180 tw8936550737240361183 tw8944771732368077317 tw8966791992940194607 tw901235738833564847 tw9024960208518369718 tw9033962758886018465 tw9060029098029976858 tw9076473575359757572 tw9076738977566995121 tw9083735634308654500 tw9095432637111231423 tw923005166797241290 tw9238293814160704513 tw9266469662518458313 tw9286952108688313497 tw9300345741185078629 tw9311211021836031833 tw9316839765301934829 tw9329840624846732075 tw9368681124448496155 tw9384603168437763674 tw9455413403626367570 tw9462583759052333049 tw9475743993647819022 tw9486094436617264190 tw9493929142896525670 tw9514871468430900508 tw9570289386902368727 tw9581488060479760031 tw9585057993204155649 tw9608494686785952243 tw963250354405820721 tw9643341670984575549 tw9653185532995154362 tw9663395224574456661 tw9682748659620203884 tw9762261945401194821 tw9774392656884338095 tw9794108407553267987 tw9806573280751460149 tw9828128644010338574 tw9857831985982496876 tw9862656563587997998 tw9866170552468459772 tw9869534557580111052 tw9872212905763131333 tw9885899818615600457 tw9931715365322101246 tw9967461855366883277 tw9976118525443419724 tw9987036940334390519:True)
open PySem PySem.W PyProof.Rows
set_option maxRecDepth 100000 in
set_option maxHeartbeats 0 in
theorem PySem.Challenge.cw_backchains_s01_answers_holds : PySem.Challenge.rw_backchains_s01_answers.Holds := by
 w_on; k_headS; (case hw=>exact⟨[.list [.int 5,.int 1,.int 1]],by decide +kernel,by decide +kernel⟩)
 k_fillS
 refine L2.Ay (r:=PySem.Challenge.rw_backchains_s01_answers) (k:=51) (CX:=L2.CX0) (ps:=["calls"]) (sp:=B.FI) (by decide +kernel) (by decide +kernel) rfl rfl ⟨rfl,by decide,by decide⟩ (fun w h Y=>PySem.W.kIn_of Y) ?F ?S (fun _ _ _ _ z=>z)
 case F=>
  intro w mg fa h Y KX G hmg
  refine' B.all_mk rfl KX G hmg ?x0 ?x1 ?x2 ?x3 ?x4 ?x5 ?x6 ?x7 ?x8 ?x9 ?x10 ?x11 ?x12 ?x13 ?x14 ?x15 ?x16 ?x17 ?x18 ?x19 ?x20 ?x21 ?x22 ?x23 ?x24 ?x25 ?x26 ?x27 ?x28 ?x29 ?x30 ?x31 ?x32 ?x33 ?x34 ?x35 ?x36 ?x37 ?x38 ?x39 ?x40 ?x41 ?x42 ?x43 ?x44 ?x45 ?x46 ?x47 ?x48 ?x49 ?x50 ?x51 ?x52 ?x53 ?x54 ?x55 ?x56 ?x57 ?x58 ?x59 ?x60 ?x61 ?x62 ?x63 ?x64 ?x65 ?x66 ?x67 ?x68 ?x69 ?x70 ?x71 ?x72 ?x73 ?x74 ?x75 ?x76 ?x77 ?x78 ?x79 ?x80 ?x81 ?x82 ?x83 ?x84 ?x85 ?x86 ?x87 ?x88 ?x89 ?x90 ?x91 ?x92 ?x93 ?x94 ?x95 ?x96 ?x97 ?x98 ?x99 ?x100 ?x101 ?x102 ?x103 ?x104 ?x105 ?x106 ?x107 ?x108 ?x109 ?x110 ?x111 ?x112 ?x113 ?x114 ?x115 ?x116 ?x117 ?x118 ?x119 ?x120 ?x121 ?x122 ?x123 ?x124 ?x125 ?x126 ?x127 ?x128 ?x129 ?x130 ?x131 ?x132 ?x133 ?x134 ?x135 ?x136 ?x137 ?x138 ?x139 ?x140 ?x141 ?x142 ?x143 ?x144 ?x145 ?x146 ?x147 ?x148 ?x149 ?x150 ?x151 ?x152 ?x153 ?x154 ?x155 ?x156 ?x157 ?x158 ?x159 ?x160 ?x161 ?x162 ?x163 ?x164 ?x165 ?x166 ?x167 ?x168 ?x169 ?x170 ?x171 ?x172 ?x173 ?x174 ?x175 ?x176 ?x177 ?x178 ?x179 ?x180 ?x181
  case x0 | x1 | x2 | x3 | x4 | x5 | x6 | x7 | x8 | x9 | x10 | x11=>refine' B.mN ?a; (case a=>k_is)
  case x12 | x13 | x14 | x15=>refine' B.mI ?a; (case a=>k_is)
  case x16 | x17=>k_is
  case x18 | x19 | x20 | x21 | x22 | x23=>refine' B.mI ?a; (case a=>k_is)
  case x24 | x25 | x26 | x27=>k_is
  case x28 | x29 | x30 | x31 | x32 | x33=>refine' B.mI ?a; (case a=>k_is)
  case x34 | x35=>k_is
  case x36 | x37 | x38 | x39 | x40 | x41 | x42 | x43 | x44 | x45 | x46 | x47 | x48 | x49 | x50 | x51 | x52 | x53 | x54 | x55 | x56 | x57 | x58 | x59 | x60 | x61 | x62 | x63 | x64 | x65 | x66 | x67 | x68=>refine' B.mI ?a; (case a=>k_is)
  case x69 | x70 | x71 | x72 | x73 | x74 | x75 | x76 | x77 | x78 | x79 | x80 | x81 | x82 | x83 | x84=>k_is
  case x85=>refine' B.mC ?a ?b ?c ?d ?e ?f; (case a | b | c | d | e | f=>k_is)
  case x86 | x87 | x88 | x89 | x90 | x91=>refine' B.mA ?a; (case a=>k_is)
  case x92=>k_is
  case x93=>refine' B.mC ?a ?b ?c ?d ?e ?f; (case a | b | c | d | e | f=>k_is)
  case x94 | x95 | x96=>refine' B.mA ?a; (case a=>k_is)
  case x97=>k_is
  case x98=>refine' B.mC ?a ?b ?c ?d ?e ?f; (case a | b | c | d | e | f=>k_is)
  case x99 | x100 | x101 | x102 | x103=>refine' B.mA ?a; (case a=>k_is)
  case x104=>k_is
  case x105=>refine' B.mC ?a ?b ?c ?d ?e ?f; (case a | b | c | d | e | f=>k_is)
  case x106 | x107 | x108=>refine' B.mA ?a; (case a=>k_is)
  case x109=>refine' B.mD ?a ?l ?c ?k; (case a | l | c | k=>k_is)
  case x110=>refine' B.mM ?a ?i ?l ?c ?k; (case a | i | l | c | k=>k_is)
  case x111 | x112 | x113 | x114 | x115 | x116 | x117 | x118 | x119 | x120 | x121 | x122 | x123 | x124 | x125 | x126 | x127 | x128 | x129 | x130 | x131 | x132 | x133 | x134 | x135 | x136 | x137 | x138 | x139 | x140 | x141 | x142 | x143 | x144 | x145 | x146 | x147 | x148 | x149 | x150=>refine' B.mD ?a ?l ?c ?k; (case a | l | c | k=>k_is)
  case x151 | x152=>refine' B.mM ?a ?i ?l ?c ?k; (case a | i | l | c | k=>k_is)
  case x153 | x154 | x155 | x156=>refine' B.mD ?a ?l ?c ?k; (case a | l | c | k=>k_is)
  case x157 | x158 | x159 | x160 | x161 | x162 | x163 | x164 | x165 | x166 | x167 | x168 | x169 | x170 | x171 | x172 | x173 | x174 | x175 | x176=>refine' B.mM ?a ?i ?l ?c ?k; (case a | i | l | c | k=>k_is)
  case x177 | x178 | x179 | x180 | x181=>refine' B.mD ?a ?l ?c ?k; (case a | l | c | k=>k_is)
 case S=>
  intro K H xs a hO hwi hask hx
  cases hx with
  | cons h1 h2=>
   cases h2
   cases h1 with
   | lst hs ha=>
    have e:=L2.Dk a.1 _ ha
    subst e
    have q:((Codec.inLen 0 16000 a.1 && a.1.all (Codec.inInt (Int.negSucc 999999999999999999) (Int.ofNat 1000000000000000000))) && true)=true:=hwi
    rw [Bool.and_eq_true,Bool.and_eq_true] at q
    exact⟨_,a.1,rfl,hs,(Codec.inNat_iff.mp q.1.1).2,hask,fun H' p hp=>.lst (L2.SqL.of hp) (L2.DC _)⟩
