import PyProof.Rows.All
import Wide.All
import OpenK.AllK
import Wide.FinOn
import PyProof.EqAt
import PyProof.EqKinds
import PyProof.TupleCall
import KE.BitLaws
import Open.SpecLaws
import KE.OsHead
import KE.OsGo
import PyProof.ExcInit
import PyProof.InstStoreFacts
import PyProof.ExcArgsOwn
import PyProof.ExcBaseAll.Exception
import PyProof.ExcAttrAll.Exception
import OpenK.KMore
import PyProof.RaisesMany
import PyProof.PassesOwn
import KE.KTryMore
import KE.KDictList
import KE.KRevIter
import PyProof.Rows.CallKwBuiltin
import PySem.Challenge.RW_checkedformats_s01_answers
set_option Elab.async false
set_option linter.all false
set_option maxRecDepth 100000
set_option maxHeartbeats 4000000
namespace L2
open PySem PySem.Spec PyProof.Rows
abbrev Key:=Sum Int Str
def keyIs:Key→Value→Bool
 | .inl k,v=>Value.isInt k v
 | .inr x,v=>Value.isStrOf x v
def keyH (w:World):Key→Int
 | .inl k=>hashInt k
 | .inr x=>hashStr w x
theorem keyIs_shape:∀{k:Key} {v:Value},keyIs k v=true→(∃i t,k=Sum.inl i∧v=Value.int i t)∨(∃x t,k=Sum.inr x∧v=Value.str x t)
 | .inl i,v,h=>by
  obtain ⟨t,e⟩:=Value.isInt_shape (k:=i) (v:=v) h
  exact .inl ⟨i,t,rfl,e⟩
 | .inr x,v,h=>by
  obtain ⟨t,e⟩:=Value.isStrOf_shape (x:=x) (v:=v) h
  exact .inr ⟨x,t,rfl,e⟩
theorem keyIs_int (i:Int) (t:Tok):keyIs (.inl i) (.int i t)=true:=by simp [keyIs,Value.isInt]
theorem keyIs_str (x:Str) (t:Tok):keyIs (.inr x) (.str x t)=true:=by simp [keyIs,Value.isStrOf]
theorem key_ll (a b:Int):decide ((Sum.inl a:Key)=Sum.inl b)=(a==b):=by
 by_cases e:a=b
 ·subst e;simp
 ·have h:¬(Sum.inl a:Key)=Sum.inl b:=fun q=>e (Sum.inl.inj q)
  rw [decide_eq_false h]
  exact (beq_eq_false_iff_ne.mpr e).symm
theorem key_rr (a b:Str):decide ((Sum.inr a:Key)=Sum.inr b)=decide (a=b):=by
 by_cases e:a=b
 ·subst e;simp
 ·have h:¬(Sum.inr a:Key)=Sum.inr b:=fun q=>e (Sum.inr.inj q)
  rw [decide_eq_false h,decide_eq_false e]
theorem key_lr (a:Int) (b:Str):decide ((Sum.inl a:Key)=Sum.inr b)=false:=decide_eq_false (fun q=>nomatch q)
theorem key_rl (a:Str) (b:Int):decide ((Sum.inr a:Key)=Sum.inl b)=false:=decide_eq_false (fun q=>nomatch q)
def mixKind (prog:Program) (w:World):PySem.KeyKind prog w Key where
 is:=keyIs
 hash:=keyH w
 inj:=fun v a b ha hb=>by
  rcases keyIs_shape ha with ⟨i,t,rfl,rfl⟩ | ⟨x,t,rfl,rfl⟩
  ·rcases keyIs_shape hb with ⟨j,u,rfl,e⟩ | ⟨y,u,rfl,e⟩
   ·injection e with e1 _;rw [e1]
   ·exact nomatch e
  ·rcases keyIs_shape hb with ⟨j,u,rfl,e⟩ | ⟨y,u,rfl,e⟩
   ·exact nomatch e
   ·injection e with e1 _;rw [e1]
 byValue:=fun k v h=>by
  rcases keyIs_shape h with ⟨i,t,rfl,rfl⟩ | ⟨x,t,rfl,rfl⟩<;>rfl
 pyHash:=fun hv h=>by
  rcases keyIs_shape hv with ⟨i,t,rfl,rfl⟩ | ⟨x,t,rfl,rfl⟩
  ·exact wpAny_pyHash_int h
  ·exact wpAny_pyHash_str h
 eqBool:=fun hu hv h=>by
  rcases keyIs_shape hu with ⟨i,t,rfl,rfl⟩ | ⟨x,t,rfl,rfl⟩
  ·rcases keyIs_shape hv with ⟨j,u,rfl,rfl⟩ | ⟨y,u,rfl,rfl⟩
   ·rw [key_ll] at h;exact wpAny_eqBool_int h
   ·rw [key_lr] at h;exact SeqAt.EqAt.int_str i t y u _ _ _ _ h
  ·rcases keyIs_shape hv with ⟨j,u,rfl,rfl⟩ | ⟨y,u,rfl,rfl⟩
   ·rw [key_rl] at h;exact SeqAt.EqAt.str_int x t j u _ _ _ _ h
   ·rw [key_rr] at h;exact wpAny_eqBool_str h
 «strs»:=fun k x t v h=>by
  rcases keyIs_shape h with ⟨i,u,rfl,e⟩ | ⟨y,u,rfl,e⟩
  ·exact nomatch e
  ·injection e with e1 _
   subst e1
   cases v<;>rfl
theorem mixKind_int (prog:Program) (w:World) (i:Int) (t:Tok):(mixKind prog w).is (.inl i) (.int i t)=true:=keyIs_int i t
theorem mixKind_str (prog:Program) (w:World) (x:Str) (t:Tok):(mixKind prog w).is (.inr x) (.str x t)=true:=keyIs_str x t
end L2
namespace L2
open PySem PySem.Spec PyProof.Rows
inductive V where
 | non | bl (b:Bool) | int (i:Int) | str (x:Str) | byt (b:Array UInt8) | flt (b:UInt64) | ref (a:Addr) | ty (n:String)
 deriving DecidableEq
def RelV:V→Value→Prop
 | .non,u=>u=Value.none
 | .bl b,u=>u=Value.bool b
 | .int i,u=>∃t,u=Value.int i t
 | .str x,u=>∃t,u=Value.str x t
 | .byt b,u=>∃t,u=Value.bytes b t
 | .flt b,u=>∃t,u=Value.float b t
 | .ref a,u=>u=Value.ref a
 | .ty n,u=>u=Value.type n
abbrev Vals:List V→List Value→Prop:=Paired RelV
theorem Vals.length {xs:List V} {us:List Value} (r:Vals xs us):xs.length=us.length:=Paired.length r
theorem Vals.get:∀{xs:List V} {us:List Value} {i:Nat} {x:V},Vals xs us→xs[i]?=some x→∃u,us[i]?=some u∧RelV x u
 | _,_,_,_,.nil,e=>by simp at e
 | _,_,0,_,.cons r _,e=>by simp at e;subst e;exact ⟨_,rfl,r⟩
 | _,_,i + 1,x,.cons _ t,e=>by
  obtain ⟨u,h1,h2⟩:=Vals.get (i:=i) (x:=x) t (by simpa using e)
  exact ⟨u,by simpa using h1,h2⟩
theorem Vals.append:∀{xs ys:List V} {us ws:List Value},Vals xs us→Vals ys ws→Vals (xs++ys) (us++ws)
 | _,_,_,_,.nil,s=>s
 | _,_,_,_,.cons r t,s=>.cons r (Vals.append t s)
theorem Vals.take:∀{xs:List V} {us:List Value} (n:Nat),Vals xs us→Vals (xs.take n) (us.take n)
 | _,_,0,_=>.nil
 | _,_,_ + 1,.nil=>.nil
 | _,_,n + 1,.cons r t=>.cons r (Vals.take n t)
theorem Vals.drop:∀{xs:List V} {us:List Value} (n:Nat),Vals xs us→Vals (xs.drop n) (us.drop n)
 | _,_,0,r=>r
 | _,_,_ + 1,.nil=>.nil
 | _,_,n + 1,.cons _ t=>Vals.drop n t
def RelO:Option V→Option Value→Prop
 | some v,some u=>RelV v u
 | none,none=>True
 | _,_=>False
def KV {κ:Type}:List (κ×V)→List (κ×Value)→Prop:=Paired fun (p:κ×V) (q:κ×Value)=>p.1=q.1∧RelV p.2 q.2
def kV:Key→V
 | .inl i=>.int i
 | .inr x=>.str x
inductive HO where
 /-- a list -/
 | lst (xs:List V)
 /-- a tuple (never changes) -/
 | tup (xs:List V)
 /-- a dict whose keys are ints and texts;one whose keys are tuples of ints and texts (the empty one is both) -/
 | dK (kvs:List (Key×V)) | dT (kvs:List (List Key×V))
 /-- a set of ints:its members,its size -/
 | set (S:Int→Bool) (n:Nat)
 /-- an instance of the class at C,its dict at dx,its attributes -/
 | ins (C dx:Addr) (fs:List (Str×V))
 /-- the dict of the instance at x -/
 | own (x:Addr)
 /-- the dict of an exception -/
 | xd (fs:List (Str×V))
 /-- a bound method,f of x -/
 | met (f x:Addr)
 /-- a range object lo,lo + 1,.. below hi -/
 | rng (lo hi:Int)
 /-- a thing that is known to the object (the script;a dict while a loop walks it):read,never written while it is so -/
 | frz (o:Obj) (u:HO)
 /-- a code object's table -/
 | tbl (ps:Array Value)
 /-- any other thing,by what is true of its one object (a def of one's own:SetO a S n:=HO.ext fun h=>..) -/
 | ext (φ:Heap→Prop)
abbrev Hp:=Addr→Option HO
def upd (H:Hp) (a:Addr) (o:HO):Hp:=fun b=>if b=a then some o else H b
theorem upd_same {H:Hp} {a:Addr} {o:HO}:upd H a o a=some o:=by unfold upd;rw [if_pos rfl]
theorem upd_ne {H:Hp} {a b:Addr} {o:HO} (h:b≠a):upd H a o b=H b:=by unfold upd;rw [if_neg h]
theorem ne_of {H:Hp} {a b:Addr} {o u:HO} (h:H a=some o) (h':H b=some u) (d:o≠u):a≠b:=by
 intro e;subst e;rw [h] at h';exact d (Option.some.inj h')
theorem ne_of_none {H:Hp} {a b:Addr} {o:HO} (h:H a=some o) (h':H b=none):a≠b:=by
 intro e;subst e;rw [h] at h';cases h'
section
variable (P:Program) (w:World)
def ObjOk (H:Hp) (h:Heap) (a:Addr):HO→Prop
 | .lst xs=>xs.length≤sizeLine∧∃(its:List Value) (n:Nat),Vals xs its∧h.get? a=some {cls:=.type "list",data:=.seq its.toArray n}
 | .tup xs=>xs.length≤sizeLine∧∃its:List Value,Vals xs its∧IsTup h a its.toArray
 | .dK kvs=>kvs.length≤sizeLine∧(a==sysModules)=false∧∃vs,KV kvs vs∧h.DictOf (mixKind P w) a vs
 | .dT kvs=>kvs.length≤sizeLine∧(a==sysModules)=false∧∃xs:List (List Key×Addr×Value),
  Paired (fun (p:List Key×V) (q:List Key×Addr×Value)=>p.1=q.1∧H q.2.1=some (.tup (p.1.map kV))∧RelV p.2 q.2.2) kvs xs∧
  ∃o es ep,h.get? a=some o∧o.ExactDict∧o.data=.dict es ep∧es.toList=xs.map (entryOfKey (tupleKind (mixKind P w)))∧(xs.map (·.1)).Nodup
 | .set S n=>h.SetOf (intKind P w) a S n
 | .ins C dx fs=>H dx=some (.own a)∧fs.length≤1000∧dx≠a∧h.get? a=some (PySem.W.instObj C dx)∧
  ∃mA,h.Ns1 dx mA∧(∀f,RelO (fs.lookup f) (mA f))∧PySem.Within mA (fs.map (·.1))
 | .own _=>∃o,h.get? a=some o
 | .xd fs=>∃mA,h.Ns1 a mA∧∀f,RelO (fs.lookup f) (mA f)
 | .rng lo hi=>∃t u v,h.get? a=some {cls:=.type "range",data:=.fields #[.int lo t,.int hi u,.int 1 v]}
 | .frz o u=>h.get? a=some o∧ObjOk H h a u
 | .tbl ps=>h.get? a=some {cls:=.none,data:=.fields ps}
 | .met f x=>h.get? a=some (PySem.W.methodObj (.ref f) (.ref x))
 | .ext φ=>φ h∧(∃o,h.get? a=some o)∧∀h1 h2:Heap,φ h1→(∀o,h1.get? a=some o→h2.get? a=some o)→φ h2
def HOk (H:Hp) (h:Heap):Prop:=∀a o,H a=some o→ObjOk P w H h a o
end
section
variable {P:Program} {w:World} {H H':Hp} {h h':Heap} {a:Addr} {o:HO}
theorem ObjOk.lt (x:ObjOk P w H h a o):a < h.objs.size:=by
 cases o with
 | lst xs=>obtain ⟨_,_,_,_,e⟩:=x;exact Heap.lt_size e
 | tup xs=>obtain ⟨_,_,_,p⟩:=x;exact p.lt
 | dK kvs=>obtain ⟨_,_,_,_,o,_,_,e,_⟩:=x;exact Heap.lt_size e
 | dT kvs=>obtain ⟨_,_,_,_,o,_,_,e,_⟩:=x;exact Heap.lt_size e
 | set S n=>obtain ⟨o,_,_,_,e,_⟩:=x;exact Heap.lt_size e
 | ins C dx fs=>obtain ⟨_,_,_,e,_⟩:=x;exact Heap.lt_size e
 | own y=>obtain ⟨_,e⟩:=x;exact Heap.lt_size e
 | xd fs=>obtain ⟨_,⟨_,_,_,e,_⟩,_⟩:=x;exact Heap.lt_size e
 | rng lo hi=>obtain ⟨_,_,_,e⟩:=x;exact Heap.lt_size e
 | frz ob u=>obtain ⟨e,_⟩:=x;exact Heap.lt_size e
 | tbl ps=>exact Heap.lt_size (show h.get? a=some _ from x)
 | met f y=>exact Heap.lt_size (show h.get? a=some _ from x)
 | ext φ=>obtain ⟨_,⟨_,e⟩,_⟩:=x;exact Heap.lt_size e
theorem Paired.mapP {α β:Type} {F G:α→β→Prop}:∀{l₁:List α} {l₂:List β},Paired F l₁ l₂→(∀a b,F a b→G a b)→Paired G l₁ l₂
 | _,_,.nil,_=>.nil
 | _,_,.cons r t,f=>.cons (f _ _ r) (Paired.mapP t f)
theorem ObjOk.stay (x:ObjOk P w H h a o) (k:∀b u,(b=a∨H b=some (.own a))→h.get? b=some u→h'.get? b=some u)
 (ho:∀b,H b=some (.own a)→H' b=some (.own a)) (ht:∀b xs,H b=some (.tup xs)→H' b=some (.tup xs)):ObjOk P w H' h' a o:=by
 induction o with
 | lst xs=>obtain ⟨z,its,n,r,e⟩:=x;exact ⟨z,its,n,r,k _ _ (.inl rfl) e⟩
 | tup xs=>obtain ⟨z,its,r,ob,e,c⟩:=x;exact ⟨z,its,r,ob,k _ _ (.inl rfl) e,c⟩
 | dK kvs=>obtain ⟨z,y,vs,r,ob,es,ep,e,c⟩:=x;exact ⟨z,y,vs,r,ob,es,ep,k _ _ (.inl rfl) e,c⟩
 | dT kvs=>
  obtain ⟨z,y,xs,r,ob,es,ep,e,c⟩:=x
  exact ⟨z,y,xs,Paired.mapP r fun p q z=>⟨z.1,ht _ _ z.2.1,z.2.2⟩,ob,es,ep,k _ _ (.inl rfl) e,c⟩
 | set S n=>obtain ⟨ob,es,ep,t,e,c⟩:=x;exact ⟨ob,es,ep,t,k _ _ (.inl rfl) e,c⟩
 | ins C dx fs=>
  obtain ⟨d,z,ne,e,mA,⟨od,es,ep,e2,c⟩,r⟩:=x
  exact ⟨ho _ d,z,ne,k _ _ (.inl rfl) e,mA,⟨od,es,ep,k _ _ (.inr d) e2,c⟩,r⟩
 | own y=>obtain ⟨ob,e⟩:=x;exact ⟨ob,k _ _ (.inl rfl) e⟩
 | xd fs=>obtain ⟨mA,⟨od,es,ep,e,c⟩,r⟩:=x;exact ⟨mA,⟨od,es,ep,k _ _ (.inl rfl) e,c⟩,r⟩
 | rng lo hi=>obtain ⟨t,u,v,e⟩:=x;exact ⟨t,u,v,k _ _ (.inl rfl) e⟩
 | frz ob u ih=>obtain ⟨e,q⟩:=x;exact ⟨k _ _ (.inl rfl) e,ih q⟩
 | tbl ps=>
  have e:h.get? a=some {cls:=.none,data:=.fields ps}:=x
  show h'.get? a=some {cls:=.none,data:=.fields ps}
  exact k a _ (.inl rfl) e
 | met f y=>
  have e:h.get? a=some (PySem.W.methodObj (.ref f) (.ref y)):=x
  show h'.get? a=some (PySem.W.methodObj (.ref f) (.ref y))
  exact k a _ (.inl rfl) e
 | ext φ=>obtain ⟨p,⟨o,e⟩,st⟩:=x;exact ⟨st _ _ p fun o q=>k _ _ (.inl rfl) q,⟨o,k _ _ (.inl rfl) e⟩,st⟩
theorem HOk.lt (x:HOk P w H h) (e:H a=some o):a < h.objs.size:=(x a o e).lt
theorem HOk.fresh (x:HOk P w H h) (e:h.objs.size≤a):H a=none:=by
 cases q:H a with
 | none=>rfl
 | some u=>exact absurd (Nat.lt_of_lt_of_le (x.lt q) e) (Nat.lt_irrefl _)
theorem HOk.kept (x:HOk P w H h) (k:∀b u,h.get? b=some u→h'.get? b=some u):HOk P w H h':=fun a o e=>
 (x a o e).stay (fun b u _ q=>k b u q) (fun _ q=>q) fun _ _ q=>q
theorem HOk.laid (x:HOk P w H h) (k:∀b u,h.get? b=some u→h'.get? b=some u) (hp:h.objs.size≤a) (new:ObjOk P w (upd H a o) h' a o):HOk P w (upd H a o) h':=fun b u e=>by
 have hn:=x.fresh hp
 by_cases hb:b=a
 ·subst hb;rw [upd_same] at e;cases e;exact new
 ·rw [upd_ne hb] at e
  exact (x b u e).stay (fun c v _ q=>k c v q) (fun c q=>by rw [upd_ne (ne_of_none q hn)];exact q) fun c xs q=>by rw [upd_ne (ne_of_none q hn)];exact q
end
def Rd (H:Hp) (a:Addr) (u:HO):Prop:=H a=some u∨∃o,H a=some (.frz o u)
theorem Rd.ok {P:Program} {w:World} {H:Hp} {h:Heap} {a:Addr} {u:HO} (r:Rd H a u) (x:HOk P w H h):ObjOk P w H h a u:=by
 rcases r with r | ⟨o,r⟩
 ·exact x a u r
 ·obtain ⟨_,q⟩:=x a _ r
  exact q
def Mut:Option HO→Prop
 | some (.lst _)=>True
 | some (.dK _)=>True
 | some (.dT _)=>True
 | some (.set _ _)=>True
 | some (.ins _ _ _)=>True
 | some (.ext _)=>True
 | _=>False
section
variable {P:Program} {w:World} {H:Hp} {h h':Heap} {x e:Addr} {o':HO}
theorem HOk.write (ok:HOk P w H h) (mu:Mut (H x)) (he:e=x∨H e=some (.own x)) (k:∀b u,b≠e→h.get? b=some u→h'.get? b=some u) (heo:∃u,h'.get? e=some u)
 (new:ObjOk P w (upd H x o') h' x o'):HOk P w (upd H x o') h':=fun b u q=>by
 have nown:∀c y,H c=some (.own y)→c≠x:=fun c y r z=>by subst z;rw [r] at mu;exact mu
 have ntup:∀c xs,H c=some (.tup xs)→c≠x:=fun c xs r z=>by subst z;rw [r] at mu;exact mu
 by_cases hb:b=x
 ·subst hb;rw [upd_same] at q;cases q;exact new
 ·rw [upd_ne hb] at q
  by_cases hbe:b=e
  ·have q':H b=some (.own x):=by
    rcases he with z | z
    ·exact absurd (hbe.trans z) hb
    ·rw [hbe];exact z
   rw [q] at q';cases q'
   obtain ⟨v,hv⟩:=heo
   exact ⟨v,by rw [hbe];exact hv⟩
  ·refine (ok b u q).stay (fun c v hc r=>k c v ?_ r) (fun c r=>by rw [upd_ne (nown c b r)];exact r) fun c xs r=>by rw [upd_ne (ntup c xs r)];exact r
   rcases hc with rfl | hc
   ·exact hbe
   ·rintro rfl
    rcases he with z | z
    ·exact nown c b hc z
    ·rw [hc] at z;cases z;exact hb rfl
end
structure Un (fs ex:List Addr) (H H':Hp) (h h':Heap):Prop where
 keep:∀b o,h.get? b=some o→H b=none→b ∉ fs→b ∉ ex→h'.get? b=some o
 slot:∀b o,h.get? b=some o→H b=none→b∈fs→b ∉ ex→∃sl,h'.get? b=some {o with slots:=sl}
 free:∀b o,h.get? b=some o→H b=none→b ∉ ex→H' b=none
 there:∀b o,h.get? b=some o→b ∉ ex→∃o',h'.get? b=some o'
 tups:∀b xs,H b=some (.tup xs)→H' b=some (.tup xs)
 frzs:∀b o u,H b=some (.frz o u)→H' b=some (.frz o u)
 tbls:∀b ps,H b=some (.tbl ps)→∃more,H' b=some (.tbl (ps++more))
section
variable {fs fs' ex ex':List Addr} {H H1 H2:Hp} {h h1 h2 h':Heap} {a x e:Addr} {o:HO}
theorem Un.any (u:Un fs ex H H1 h h1) {b:Addr} {ob:Obj} (q:h.get? b=some ob) (n:H b=none) (hx:b ∉ ex):∃sl,h1.get? b=some {ob with slots:=sl}:=by
 by_cases hb:b∈fs
 ·exact u.slot b ob q n hb hx
 ·exact ⟨ob.slots,u.keep b ob q n hb hx⟩
theorem Un.kept (k:∀b u,h.get? b=some u→h'.get? b=some u):Un fs ex H H h h':=
 ⟨fun b ob q _ _ _=>k b ob q,fun b ob q _ _ _=>⟨ob.slots,k b ob q⟩,fun _ _ _ n _=>n,fun b ob q _=>⟨ob,k b ob q⟩,fun _ _ q=>q,fun _ _ _ q=>q,fun _ ps q=>⟨#[],by rw [q];simp⟩⟩
theorem Un.refl:Un fs ex H H h h:=Un.kept fun _ _ q=>q
theorem Un.laid (k:∀b u,h.get? b=some u→h'.get? b=some u) (hp:h.objs.size≤a) (hn:H a=none):Un fs ex H (upd H a o) h h' where
 keep:=fun b u q _ _ _=>k b u q
 slot:=fun b u q _ _ _=>⟨u.slots,k b u q⟩
 free:=fun b u q n _=>by rw [upd_ne (Nat.ne_of_lt (Nat.lt_of_lt_of_le (Heap.lt_size q) hp))];exact n
 there:=fun b u q _=>⟨u,k b u q⟩
 tups:=fun b xs q=>by rw [upd_ne (ne_of_none q hn)];exact q
 frzs:=fun b u xs q=>by rw [upd_ne (ne_of_none q hn)];exact q
 tbls:=fun b ps q=>⟨#[],by rw [upd_ne (ne_of_none q hn),q];simp⟩
theorem Un.write (mu:Mut (H x)) (he:e=x∨H e=some (.own x)) (k:∀b u,b≠e→h.get? b=some u→h'.get? b=some u) (heo:∃u,h'.get? e=some u):Un fs ex H (upd H x o) h h':=by
 have hx:∀b,H b=none→b≠x:=fun b n z=>by subst z;rw [n] at mu;exact mu
 have hb:∀b,H b=none→b≠e:=fun b n z=>by
  subst z
  rcases he with r | r
  ·exact hx b n r
  ·rw [n] at r;cases r
 have hm:∀b u,H b=some u→¬Mut (some u)→b≠x:=fun b u q nm z=>by subst z;rw [q] at mu;exact nm mu
 refine ⟨fun b u q n _ _=>k b u (hb b n) q,fun b u q n _ _=>⟨u.slots,k b u (hb b n) q⟩,fun b u q n _=>by rw [upd_ne (hx b n)];exact n,fun b u q _=>?_,
  fun b xs q=>by rw [upd_ne (hm b _ q fun z=>z)];exact q,fun b u xs q=>by rw [upd_ne (hm b _ q fun z=>z)];exact q,fun b ps q=>⟨#[],by rw [upd_ne (hm b _ q fun z=>z),q];simp⟩⟩
 by_cases hbe:b=e
 ·subst hbe;exact heo
 ·exact ⟨u,k b u hbe q⟩
end
def trk (h:Heap) (H:Hp):List Addr:=(List.range h.objs.size).filter fun a=>(H a).isSome
def hidT (h:Heap) (H:Hp):Heap:=PySem.W.hideAll h (trk h H)
theorem hidT_size (h:Heap) (H:Hp):(hidT h H).objs.size=h.objs.size:=PySem.W.hideAll_size _ _
theorem hidT_get {h:Heap} {H:Hp} {b:Addr} {o:Obj} (e:h.get? b=some o) (n:H b=none):(hidT h H).get? b=some o:=
 PySem.W.hideAll_get _ e fun hm=>by
  have q:(H b).isSome=true:=(List.mem_filter.mp hm).2
  rw [n] at q;simp at q
theorem of_hidT {h:Heap} {H:Hp} {b:Addr} {o:Obj} (e:(hidT h H).get? b=some o):h.get? b=some o∧H b=none:=by
 have e':h.get? b=some o:=PySem.W.of_hideAll (trk h H) e
 refine ⟨e',?_⟩
 cases q:H b with
 | none=>rfl
 | some x=>
  have hm:b∈trk h H:=List.mem_filter.mpr ⟨List.mem_range.mpr (Heap.lt_size e'),by simp [q]⟩
  have z:(hidT h H).get? b=none:=PySem.W.hideAll_none (trk h H) hm
  rw [z] at e;cases e
end L2
namespace L2
open PySem PySem.Spec PyProof.Rows
structure Mod (K:PySem.W.Frag) (mg:Str→Option Value) (base:Heap):Prop where
 kin:K.In base
 glob:base.Ns mainGlobals mg
 blt:∃mb,base.Ns builtinsNs mb∧∀x:Str,x≠"__name__"→mb x=bootBuiltins x
 nolimit:base.NoLimit
structure Cx where
 prog:Program
 w:World
 K:PySem.W.Frag
 mg:Str→Option Value
 base:Heap
 A:Around
 N:List Str
 s_0:Shared
 H_0:Hp
 env:Env
 outer:List Env
 stack:List Env
 ex:List Addr
 fn:Str→Bool
 calm:Bool
 pn:List (Addr×Obj)
 xe:Value→Shared→Prop
def frs (l:List Env):List Addr:=l.filterMap (·.frame)
abbrev Cx.fs (X:Cx):List Addr:=frs X.outer
def Vis (sc:Scope) (x:Str):Prop:=sc.names.lookup x=some .local∨sc.names.lookup x=some .cell∨sc.names.lookup x=some .free
def Loc (sc:Scope) (x:Str):Prop:=sc.names.lookup x=some .local∨sc.names.lookup x=some .cell
def Look (env:Env) (h:Heap) (m:Str→Option Value) (x:Str) (u:Value):Prop:=
 (env.kindOf x=some .local∧m x=some u)∨((env.kindOf x=some .cell∨env.kindOf x=some .free)∧∃c,env.cells.lookup x=some c∧h.IsCell c (some u))
structure Cx.Ok (X:Cx):Prop where
 mod:Mod X.K X.mg X.base
 kind:X.env.scope.kind=.function
 glob:X.env.globals=mainGlobals
 blt:X.env.builtins=builtinsNs
 above:X.s_0.heap.objs.size≤X.env.locals
 inj:∀x y c,X.env.cells.lookup x=some c→X.env.cells.lookup y=some c→x=y
 has:∀x,(X.env.kindOf x=some .cell∨X.env.kindOf x=some .free)→∃c,X.env.cells.lookup x=some c
 cab:∀x c,X.fn x=true→X.env.cells.lookup x=some c→X.s_0.heap.objs.size≤c
 hd:X.calm=true→X.A.handled=none
 frames:X.A.frames=some X.stack
 stk:X.stack=X.outer∨(X.stack=X.env::X.outer∧X.env.frame=some X.env.locals)
 exf:∀b∈X.ex,b≠X.env.locals∧∀x c,X.env.cells.lookup x=some c→c≠b
 bs:∀b o,X.base.get? b=some o→X.s_0.heap.get? b=some o∧X.H_0 b=none
 bsz:X.base.objs.size≤X.s_0.heap.objs.size
 noex:∀b o,X.base.get? b=some o→b ∉ X.ex
 exfs:∀b∈X.ex,b ∉ X.fs
 funs:X.s_0.heap.FunFrames X.base X.outer
 frf:∀b∈X.fs,X.H_0 b=none
structure Inv (X:Cx) (pins:List (Addr×Obj)) (σ:List (Option V)) (H:Hp) (s:Shared):Prop where
 ok:X.Ok
 os:s.os=X.s_0.os
 bare:AllBare s.gens
 base:Un X.fs X.ex X.H_0 H X.s_0.heap s.heap
 loc:∃m,s.heap.Ns X.env.locals m∧∀(i:Nat) (x:Str) (v:V),X.N[i]?=some x→σ[i]?=some (some v)→Vis X.env.scope x→∃u,RelV v u∧Look X.env s.heap m x u
 cell:∀x c,X.env.cells.lookup x=some c→∃v,s.heap.IsCell c v
 free:H X.env.locals=none
 freeC:∀x c,X.env.cells.lookup x=some c→H c=none
 pin:∀p∈X.pn++pins,s.heap.get? p.1=some p.2∧H p.1=none∧p.1≠X.env.locals∧p.1 ∉ X.fs∧∀v,p.2.data≠.cell v
 hok:HOk X.prog X.w H s.heap
 len:σ.length=X.N.length
section
variable {X:Cx} {pins:List (Addr×Obj)} {σ:List (Option V)} {H H':Hp} {s:Shared} {h':Heap}
theorem Cx.Ok.nofr (ok:X.Ok) {b:Addr} {o:Obj} (e:X.base.get? b=some o):b ∉ X.fs:=fun hb=>by
 have:=(ok.funs.mem hb).1
 rw [e] at this;cases this
theorem Inv.bs (I:Inv X pins σ H s):∀b o,X.base.get? b=some o→s.heap.get? b=some o∧H b=none:=fun b o e=>
 ⟨I.base.keep b o (I.ok.bs b o e).1 (I.ok.bs b o e).2 (I.ok.nofr e) (I.ok.noex b o e),I.base.free b o (I.ok.bs b o e).1 (I.ok.bs b o e).2 (I.ok.noex b o e)⟩
theorem Inv.bk (I:Inv X pins σ H s):∀b o,X.base.get? b=some o→s.heap.get? b=some o:=fun b o e=>(I.bs b o e).1
theorem Inv.mod (I:Inv X pins σ H s):Mod X.K X.mg X.base:=I.ok.mod
theorem Inv.kIn (I:Inv X pins σ H s):X.K.In s.heap:=I.ok.mod.kin.keeps I.bk
theorem Inv.fr (I:Inv X pins σ H s):∃m,Fr X.base X.env.locals s.heap m:=
 let ⟨m,hn,_⟩:=I.loc
 ⟨m,hn,I.bk,Nat.le_trans I.ok.bsz I.ok.above⟩
theorem Inv.lt (I:Inv X pins σ H s):X.env.locals < s.heap.objs.size:=let ⟨_,hn,_⟩:=I.loc;hn.lt
theorem Inv.sz (I:Inv X pins σ H s):X.s_0.heap.objs.size≤s.heap.objs.size:=Nat.le_trans I.ok.above (Nat.le_of_lt I.lt)
theorem Inv.nofs (I:Inv X pins σ H s) {a:Addr} (h:s.heap.objs.size≤a):a ∉ X.fs:=fun hb=>by
 obtain ⟨_,o,ho,_⟩:=I.ok.funs.mem hb
 exact absurd (Nat.lt_of_lt_of_le (Heap.lt_size ho) (Nat.le_trans I.sz h)) (Nat.lt_irrefl _)
theorem Inv.cne (I:Inv X pins σ H s):∀x c,X.env.cells.lookup x=some c→c≠X.env.locals:=fun x c e z=>by
 obtain ⟨v,o,ho,hd⟩:=I.cell x c e
 obtain ⟨m,⟨o',es,ep,ho',hd',_⟩,_⟩:=I.loc
 rw [z,ho'] at ho;cases ho;rw [hd'] at hd;cases hd
theorem Inv.funs (I:Inv X pins σ H s):s.heap.FunFrames X.base X.outer:=by
 have all:∀(l:List Env),(∀b∈frs l,b∈X.fs)→X.s_0.heap.FunFrames X.base l→s.heap.FunFrames X.base l:=by
  intro l
  induction l with
  | nil=>intro _ _;trivial
  | cons env r ih=>
   intro hs hl
   obtain ⟨hk,⟨L,o,hf,hn,ho,hd⟩,hr⟩:=hl
   have hL:L∈X.fs:=hs L (by unfold frs;rw [List.filterMap_cons,hf];exact List.mem_cons_self)
   obtain ⟨sl,e⟩:=I.base.slot L o ho (I.ok.frf L hL) hL fun z=>I.ok.exfs L z hL
   exact ⟨hk,⟨L,_,hf,hn,e,hd⟩,ih (fun b hb=>hs b (by unfold frs;rw [List.filterMap_cons,hf];exact List.mem_cons_of_mem _ hb)) hr⟩
 exact all X.outer (fun _ hb=>hb) I.ok.funs
theorem Inv.stack (I:Inv X pins σ H s):s.heap.FunFrames X.base X.stack:=by
 rcases I.ok.stk with e | ⟨e,hf⟩
 ·rw [e];exact I.funs
 ·rw [e]
  obtain ⟨m,hn,_⟩:=I.loc
  refine .cons (by rw [I.ok.kind];decide) hf hn ?_ I.funs
  exact Heap.get?_none_of_le (Nat.le_trans I.ok.bsz I.ok.above)
theorem Inv.stkSub (I:Inv X pins σ H s):∀b∈frs X.stack,b∈X.env.locals::X.fs:=fun b hb=>by
 rcases I.ok.stk with e | ⟨e,hf⟩
 ·rw [e] at hb;exact List.mem_cons_of_mem _ hb
 ·rw [e] at hb
  unfold frs at hb
  rw [List.filterMap_cons,hf] at hb
  exact hb
theorem Inv.stkFree (I:Inv X pins σ H s):∀b∈frs X.stack,H b=none:=fun b hb=>by
 rcases List.mem_cons.mp (I.stkSub b hb) with e | hb
 ·rw [e];exact I.free
 ·obtain ⟨_,o,ho,_⟩:=I.ok.funs.mem hb
  exact I.base.free b o ho (I.ok.frf b hb) fun z=>I.ok.exfs b z hb
theorem Inv.step {g':Array GenState} {t':Nat} {d':Drawn} {ch:List Addr} (I:Inv X pins σ H s)
 (hch:∀b∈ch,(b∈X.ex∨X.s_0.heap.objs.size≤b)∧b≠X.env.locals∧(∀x c,X.env.cells.lookup x=some c→c≠b)∧∀p∈X.pn++pins,p.1≠b)
 (keep:∀b o,b≠X.env.locals→b ∉ X.fs→b ∉ ch→s.heap.get? b=some o→H b=none→h'.get? b=some o)
 (slot:∀b o,b≠X.env.locals→b∈X.fs→b ∉ ch→s.heap.get? b=some o→H b=none→∃sl,h'.get? b=some {o with slots:=sl}) (free:∀b o,b ∉ ch→s.heap.get? b=some o→H b=none→H' b=none)
 (there:∀b o,b ∉ ch→s.heap.get? b=some o→∃o',h'.get? b=some o')
 (tups:∀b xs,H b=some (.tup xs)→H' b=some (.tup xs)) (frzs:∀b o u,H b=some (.frz o u)→H' b=some (.frz o u)) (tbls:∀b ps,H b=some (.tbl ps)→∃more,H' b=some (.tbl (ps++more)))
 (ns:∀m,s.heap.Ns X.env.locals m→h'.Ns X.env.locals m) (hok:HOk X.prog X.w H' h') (hg:AllBare g'):
 Inv X pins σ H' {s with heap:=h',gens:=g',drawn:=d',toks:=t'}:=by
 have neL:∀b o,X.s_0.heap.get? b=some o→b≠X.env.locals:=fun b o e=>Nat.ne_of_lt (Nat.lt_of_lt_of_le (Heap.lt_size e) I.ok.above)
 have neC:∀b o,X.s_0.heap.get? b=some o→b ∉ X.ex→b ∉ ch:=fun b o e hx hb=>by
  rcases (hch b hb).1 with z | z
  ·exact hx z
  ·exact absurd (Nat.lt_of_lt_of_le (Heap.lt_size e) z) (Nat.lt_irrefl _)
 have cellK:∀x c,X.env.cells.lookup x=some c→∀v,s.heap.IsCell c v→h'.IsCell c v:=fun x c e v ⟨o,ho,hd⟩=>by
  have nch:c ∉ ch:=fun z=>(hch c z).2.2.1 x c e rfl
  by_cases hc:c∈X.fs
  ·obtain ⟨sl,q⟩:=slot c o (I.cne x c e) hc nch ho (I.freeC x c e)
   exact ⟨_,q,hd⟩
  ·exact ⟨o,keep c o (I.cne x c e) hc nch ho (I.freeC x c e),hd⟩
 refine ⟨I.ok,I.os,hg,⟨fun b o e n hb hx=>?_,fun b o e n hb hx=>?_,fun b o e n hx=>?_,fun b o e hx=>?_,fun b xs e=>tups b xs (I.base.tups b xs e),fun b o xs e=>frzs b o xs (I.base.frzs b o xs e),fun b ps e=>?_⟩,?_,fun x c e=>?_,?_,fun x c e=>?_,fun p hp=>?_,hok,I.len⟩
 ·exact keep b o (neL b o e) hb (neC b o e hx) (I.base.keep b o e n hb hx) (I.base.free b o e n hx)
 ·obtain ⟨sl,e1⟩:=I.base.slot b o e n hb hx
  obtain ⟨sl',e2⟩:=slot b _ (neL b o e) hb (neC b o e hx) e1 (I.base.free b o e n hx)
  exact ⟨sl',e2⟩
 ·obtain ⟨o',e1⟩:=I.base.there b o e hx
  exact free b o' (neC b o e hx) e1 (I.base.free b o e n hx)
 ·obtain ⟨o',e1⟩:=I.base.there b o e hx
  exact there b o' (neC b o e hx) e1
 ·obtain ⟨m1,e1⟩:=I.base.tbls b ps e
  obtain ⟨m2,e2⟩:=tbls b _ e1
  exact ⟨m1++m2,by rw [e2,Array.append_assoc]⟩
 ·obtain ⟨m,hn,hl⟩:=I.loc
  refine ⟨m,ns m hn,fun i x v e1 e2 e3=>?_⟩
  obtain ⟨u,r,l⟩:=hl i x v e1 e2 e3
  refine ⟨u,r,?_⟩
  rcases l with l | ⟨k,c,e,z⟩
  ·exact .inl l
  ·exact .inr ⟨k,c,e,cellK x c e _ z⟩
 ·obtain ⟨v,z⟩:=I.cell x c e
  exact ⟨v,cellK x c e v z⟩
 ·obtain ⟨m,⟨o,_,_,ho,_⟩,_⟩:=I.loc
  exact free _ o (fun z=>(hch _ z).2.1 rfl) ho I.free
 ·obtain ⟨v,o,ho,hd⟩:=I.cell x c e
  exact free c o (fun z=>(hch c z).2.2.1 x c e rfl) ho (I.freeC x c e)
 ·obtain ⟨e,n,ne,nf,d⟩:=I.pin p hp
  have nch:p.1 ∉ ch:=fun z=>(hch p.1 z).2.2.2 p hp rfl
  exact ⟨keep p.1 p.2 ne nf nch e n,free p.1 p.2 nch e n,ne,nf,d⟩
theorem Inv.un {t':Nat} (I:Inv X pins σ H s) (u:Un X.fs [] H H' s.heap h') (hok:HOk X.prog X.w H' h'):Inv X pins σ H' {s with heap:=h',toks:=t'}:=by
 obtain ⟨m,⟨o,es,ep,ho,r⟩,_⟩:=id I.loc
 obtain ⟨sl,hL⟩:=u.any ho I.free (by simp)
 exact I.step (g':=s.gens) (d':=s.drawn) (ch:=[]) (fun _ z=>nomatch z) (fun b o _ hb _ e n=>u.keep b o e n hb (by simp)) (fun b o _ hb _ e n=>u.slot b o e n hb (by simp)) (fun b o _ e n=>u.free b o e n (by simp)) (fun b o _ e=>u.there b o e (by simp)) u.tups u.frzs u.tbls (fun m' hm=>by
  obtain ⟨o',es',ep',ho',r'⟩:=hm
  rw [ho] at ho';cases ho'
  exact ⟨_,es',ep',hL,r'⟩) hok I.bare
theorem Inv.call {g':Array GenState} {t':Nat} {d':Drawn} {ch:List Addr} (I:Inv X pins σ H s) (u:Un (frs X.stack) ch H H' s.heap h') (hok:HOk X.prog X.w H' h') (hg:AllBare g')
 (hch:∀b∈ch,(b∈X.ex∨X.s_0.heap.objs.size≤b)∧b≠X.env.locals∧(∀x c,X.env.cells.lookup x=some c→c≠b)∧∀p∈X.pn++pins,p.1≠b):
 Inv X pins σ H' {s with heap:=h',gens:=g',drawn:=d',toks:=t'}:=by
 obtain ⟨m,⟨o,es,ep,ho,r⟩,_⟩:=id I.loc
 obtain ⟨sl,hL⟩:=u.any ho I.free fun z=>(hch _ z).2.1 rfl
 exact I.step (ch:=ch) hch (fun b o hL hb hc e n=>u.keep b o e n (fun z=>(List.mem_cons.mp (I.stkSub b z)).elim hL hb) hc) (fun b o _ _ hc e n=>u.any e n hc) (fun b o hc e n=>u.free b o e n hc) (fun b o hc e=>u.there b o e hc) u.tups u.frzs u.tbls (fun m' hm=>by
  obtain ⟨o',es',ep',ho',r'⟩:=hm
  rw [ho] at ho';cases ho'
  exact ⟨_,es',ep',hL,r'⟩) hok hg
theorem Inv.turned {t':Nat} {it:Addr} (I:Inv X pins σ H s) (k:∀b o,b≠it→s.heap.get? b=some o→h'.get? b=some o) (hn:H it=none) (hL:it≠X.env.locals)
 (h1:it∈X.ex∨X.s_0.heap.objs.size≤it) (h2:∀x c,X.env.cells.lookup x=some c→c≠it) (h3:∀p∈X.pn++pins,p.1≠it):Inv X pins σ H {s with heap:=h',toks:=t'}:=by
 have nit:∀b u,H b=some u→b≠it:=fun b u e z=>by rw [z,hn] at e;cases e
 refine I.step (g':=s.gens) (d':=s.drawn) (ch:=[it]) (fun b hb=>?_) (fun b o _ _ hc e _=>k b o (fun z=>hc (by simp [z])) e) (fun b o _ _ hc e _=>⟨o.slots,k b o (fun z=>hc (by simp [z])) e⟩) (fun _ _ _ _ n=>n)
  (fun b o hc e=>⟨o,k b o (fun z=>hc (by simp [z])) e⟩) (fun _ _ e=>e) (fun _ _ _ e=>e) (fun b ps e=>⟨#[],by rw [e];simp⟩) (fun m hm=>?_) (fun b u e=>?_) I.bare
 ·have e:b=it:=by simpa using hb
  subst e
  exact ⟨h1,hL,h2,h3⟩
 ·obtain ⟨o,es,ep,ho,r⟩:=hm
  exact ⟨o,es,ep,k _ o (Ne.symm hL) ho,r⟩
 ·refine (I.hok b u e).stay (fun c v hc q=>k c v ?_ q) (fun _ q=>q) fun _ _ q=>q
  rcases hc with z | z
  ·rw [z];exact nit b u e
  ·exact nit c _ z
theorem Inv.tok (I:Inv X pins σ H s) (t:Nat):Inv X pins σ H {s with toks:=t}:=I.un (h':=s.heap) (t':=t) Un.refl I.hok
theorem Inv.kept {t':Nat} (I:Inv X pins σ H s) (k:∀b u,s.heap.get? b=some u→h'.get? b=some u):Inv X pins σ H {s with heap:=h',toks:=t'}:=I.un (Un.kept k) (I.hok.kept k)
theorem Inv.laid {a:Addr} {o:HO} {t':Nat} (I:Inv X pins σ H s) (k:∀b u,s.heap.get? b=some u→h'.get? b=some u) (hp:s.heap.objs.size≤a) (new:ObjOk X.prog X.w (upd H a o) h' a o):
 Inv X pins σ (upd H a o) {s with heap:=h',toks:=t'}:=I.un (Un.laid k hp (I.hok.fresh hp)) (I.hok.laid k hp new)
theorem Inv.write {x e:Addr} {o:HO} {t':Nat} (I:Inv X pins σ H s) (mu:Mut (H x)) (he:e=x∨H e=some (.own x)) (k:∀b u,b≠e→s.heap.get? b=some u→h'.get? b=some u) (heo:∃u,h'.get? e=some u)
 (new:ObjOk X.prog X.w (upd H x o) h' x o):Inv X pins σ (upd H x o) {s with heap:=h',toks:=t'}:=I.un (Un.write mu he k heo) (I.hok.write mu he k heo new)
theorem Inv.weak {σ':List (Option V)} (I:Inv X pins σ H s) (hl:σ'.length=σ.length) (w:∀(i:Nat) v,σ'[i]?=some (some v)→σ[i]?=some (some v)):Inv X pins σ' H s:=
 ⟨I.ok,I.os,I.bare,I.base,let ⟨m,hn,hl'⟩:=I.loc;⟨m,hn,fun i x v e1 e2 e3=>hl' i x v e1 (w i v e2) e3⟩,I.cell,I.free,I.freeC,I.pin,I.hok,hl.trans I.len⟩
theorem Inv.pins_of {pins':List (Addr×Obj)} (I:Inv X pins σ H s) (h:∀p∈pins',s.heap.get? p.1=some p.2∧H p.1=none∧p.1≠X.env.locals∧p.1 ∉ X.fs∧∀v,p.2.data≠.cell v):Inv X pins' σ H s:=
 ⟨I.ok,I.os,I.bare,I.base,I.loc,I.cell,I.free,I.freeC,fun p hp=>(List.mem_append.mp hp).elim (fun z=>I.pin p (List.mem_append_left _ z)) (h p),I.hok,I.len⟩
theorem nodup_ix {N:List Str} (hN:N.Nodup) {i j:Nat} {x:Str} (a:N[i]?=some x) (b:N[j]?=some x):i=j:=by
 obtain ⟨h1,e1⟩:=List.getElem?_eq_some_iff.mp a
 obtain ⟨h2,e2⟩:=List.getElem?_eq_some_iff.mp b
 exact (List.getElem_inj hN).mp (e1.trans e2.symm)
theorem store_ok2 {M:Model} {A:Around} {E:Value→Shared→Prop} {i:Nat} {x:Str} {v:V} {u:Value} {Q:Unit→Shared→Prop} (I:Inv X pins σ H s) (hN:X.N.Nodup) (hi:X.N[i]?=some x) (hx:Loc X.env.scope x) (r:RelV v u)
 (h:∀s',Inv X pins (σ.set i (some v)) H s'→(∃a,Heap.SameBut a s.heap s'.heap∧(a=X.env.locals∨X.env.cells.lookup x=some a))→Q () s') (hf:X.fn x=true∨X.env.scope.names.lookup x=some .local:=by first | exact .inl rfl | exact .inr rfl | assumption):wpAny M A (storeName X.env x u) Q E s:=by
 obtain ⟨m,hn,hl⟩:=id I.loc
 have hcls:(X.env.scope.kind==.class||(X.env.scope.kind==.module&&X.env.locals != X.env.globals))=false:=by rw [I.ok.kind];rfl
 have hiσ:i < σ.length:=by rw [I.len];exact (List.getElem?_eq_some_iff.mp hi).1
 have cne:=I.cne
 have tracked:∀{a:Addr} {h':Heap},(∃o,s.heap.get? a=some o∧H a=none)→Heap.SameBut a s.heap h'→HOk X.prog X.w H h':=fun {a h'} ha hs b ob e=>by
  obtain ⟨_,_,hfree⟩:=ha
  refine (I.hok b ob e).stay (fun c w' hc q=>(hs.2 c ?_).trans q) (fun _ q=>q) fun _ _ q=>q
  rintro rfl
  rcases hc with rfl | hc
  ·rw [hfree] at e;cases e
  ·rw [hfree] at hc;cases hc
 rcases hx with hk | hk
 ·refine wpAny_storeName_local hk hn (fun h' hn' hs=>?_) hcls
  obtain ⟨oL,_,_,hoL,_⟩:=id hn
  refine h _ ⟨I.ok,I.os,I.bare,⟨fun b o e n hb hx=>?_,fun b o e n hb hx=>?_,I.base.free,fun b o e hx=>?_,I.base.tups,I.base.frzs,I.base.tbls⟩,⟨_,hn',fun j y v' e1 e2 e3=>?_⟩,fun y c e=>?_,I.free,I.freeC,fun p hp=>?_,tracked ⟨oL,hoL,I.free⟩ hs,by simpa using I.len⟩ ⟨_,hs,.inl rfl⟩
  ·exact (hs.2 b (Nat.ne_of_lt (Nat.lt_of_lt_of_le (Heap.lt_size e) I.ok.above))).trans (I.base.keep b o e n hb hx)
  ·obtain ⟨sl,e1⟩:=I.base.slot b o e n hb hx
   exact ⟨sl,(hs.2 b (Nat.ne_of_lt (Nat.lt_of_lt_of_le (Heap.lt_size e) I.ok.above))).trans e1⟩
  ·obtain ⟨o',e1⟩:=I.base.there b o e hx
   exact ⟨o',(hs.2 b (Nat.ne_of_lt (Nat.lt_of_lt_of_le (Heap.lt_size e) I.ok.above))).trans e1⟩
  ·by_cases hj:j=i
   ·subst hj
    rw [hi] at e1;cases e1
    rw [List.getElem?_set_self hiσ] at e2
    cases e2
    exact ⟨u,r,.inl ⟨hk,by simp⟩⟩
   ·rw [List.getElem?_set_ne (Ne.symm hj)] at e2
    obtain ⟨u',r',q⟩:=hl j y v' e1 e2 e3
    refine ⟨u',r',?_⟩
    rcases q with ⟨k,e⟩ | ⟨k,c,e,z⟩
    ·refine .inl ⟨k,?_⟩
     have:y≠x:=fun e=>hj (nodup_ix hN e1 (e▸hi))
     simp [this,e]
    ·exact .inr ⟨k,c,e,z.sameBut hs (cne y c e)⟩
  ·obtain ⟨w',z⟩:=I.cell y c e
   exact ⟨w',z.sameBut hs (cne y c e)⟩
  ·obtain ⟨e,n,ne,nf,d⟩:=I.pin p hp
   exact ⟨(hs.2 p.1 ne).trans e,n,ne,nf,d⟩
 ·have hfn:X.fn x=true:=by
   rcases hf with z | z
   ·exact z
   ·rw [z] at hk;cases hk
  obtain ⟨c,hc⟩:=I.ok.has x (.inl hk)
  obtain ⟨w',z⟩:=I.cell x c hc
  refine wpAny_storeName_cell I.ok.kind hk hc z (fun h' hc' hs=>?_)
  obtain ⟨oc,hoc,hocd⟩:=id z
  refine h {s with heap:=h'} ⟨I.ok,I.os,I.bare,⟨fun b o e n hb hx=>?_,fun b o e n hb hx=>?_,I.base.free,fun b o e hx=>?_,I.base.tups,I.base.frzs,I.base.tbls⟩,⟨m,hn.sameBut hs (Ne.symm (cne x c hc)),fun j y v' e1 e2 e3=>?_⟩,fun y c' e=>?_,I.free,I.freeC,fun p hp=>?_,tracked ⟨oc,hoc,I.freeC x c hc⟩ hs,by simpa using I.len⟩ ⟨c,hs,.inr hc⟩
  ·exact (hs.2 b (Nat.ne_of_lt (Nat.lt_of_lt_of_le (Heap.lt_size e) (I.ok.cab x c hfn hc)))).trans (I.base.keep b o e n hb hx)
  ·obtain ⟨sl,e1⟩:=I.base.slot b o e n hb hx
   exact ⟨sl,(hs.2 b (Nat.ne_of_lt (Nat.lt_of_lt_of_le (Heap.lt_size e) (I.ok.cab x c hfn hc)))).trans e1⟩
  ·obtain ⟨o',e1⟩:=I.base.there b o e hx
   exact ⟨o',(hs.2 b (Nat.ne_of_lt (Nat.lt_of_lt_of_le (Heap.lt_size e) (I.ok.cab x c hfn hc)))).trans e1⟩
  ·by_cases hj:j=i
   ·subst hj
    rw [hi] at e1;cases e1
    rw [List.getElem?_set_self hiσ] at e2
    cases e2
    exact ⟨u,r,.inr ⟨.inl hk,c,hc,hc'⟩⟩
   ·rw [List.getElem?_set_ne (Ne.symm hj)] at e2
    obtain ⟨u',r',q⟩:=hl j y v' e1 e2 e3
    refine ⟨u',r',?_⟩
    rcases q with q | ⟨k,c',e,z'⟩
    ·exact .inl q
    ·refine .inr ⟨k,c',e,z'.sameBut hs ?_⟩
     rintro rfl
     exact hj (nodup_ix hN e1 (I.ok.inj _ _ _ e hc▸hi))
  ·by_cases hcc:c'=c
   ·subst hcc;exact ⟨_,hc'⟩
   ·obtain ⟨w2,z2⟩:=I.cell y c' e
    exact ⟨w2,z2.sameBut hs hcc⟩
  ·obtain ⟨e,n,ne,nf,d⟩:=I.pin p hp
   refine ⟨(hs.2 p.1 ?_).trans e,n,ne,nf,d⟩
   intro q
   rw [q,hoc] at e
   have q':oc=p.2:=Option.some.inj e
   exact d w' (by rw [←q'];exact hocd)
theorem store_ok {M:Model} {A:Around} {E:Value→Shared→Prop} {i:Nat} {x:Str} {v:V} {u:Value} {Q:Unit→Shared→Prop} (I:Inv X pins σ H s) (hN:X.N.Nodup) (hi:X.N[i]?=some x) (hx:Loc X.env.scope x) (r:RelV v u)
 (h:∀s',Inv X pins (σ.set i (some v)) H s'→Q () s') (hf:X.fn x=true∨X.env.scope.names.lookup x=some .local:=by first | exact .inl rfl | exact .inr rfl | assumption):wpAny M A (storeName X.env x u) Q E s:=
 store_ok2 I hN hi hx r (fun s' I' _=>h s' I') hf
theorem Inv.call' {s':Shared} {ch:List Addr} (I:Inv X pins σ H s) (ho:s'.os=s.os) (u:Un (frs X.stack) ch H H' s.heap s'.heap) (hok:HOk X.prog X.w H' s'.heap) (hg:AllBare s'.gens)
 (hch:∀b∈ch,(b∈X.ex∨X.s_0.heap.objs.size≤b)∧b≠X.env.locals∧(∀x c,X.env.cells.lookup x=some c→c≠b)∧∀p∈X.pn++pins,p.1≠b):Inv X pins σ H' s':=by
 obtain ⟨h',g',d',t',o'⟩:=s'
 have e:o'=s.os:=ho
 subst e
 exact I.call (g':=g') (t':=t') (d':=d') u hok hg hch
end
abbrev XK:=Value→Option Addr→Hp→Prop
abbrev St:=List (Option V)
abbrev VK:=V→Hp→Prop
abbrev TE:=St→Hp→VK→Prop
abbrev TT:=St→Hp→(Bool→Hp→Prop)→Prop
abbrev TA:=St→Hp→(List V→Hp→Prop)→Prop
structure Ends where
 nx:St→Hp→Prop
 rt:VK
 bk:St→Hp→Prop:=fun _ _=>False
 ct:St→Hp→Prop:=fun _ _=>False
abbrev TS:=Ends→St→Hp→Prop
def EP (X:Cx) (pins:List (Addr×Obj)) (σ:St) (Q:VK) (u:Value) (s':Shared):Prop:=∃v H',Inv X pins σ H' s'∧RelV v u∧Q v H'
def TP (X:Cx) (pins:List (Addr×Obj)) (σ:St) (Q:Bool→Hp→Prop) (b:Bool) (s':Shared):Prop:=∃H',Inv X pins σ H' s'∧Q b H'
def AP (X:Cx) (pins:List (Addr×Obj)) (σ:St) (Q:List V→Hp→Prop) (us:List Value) (s':Shared):Prop:=∃vs H',Inv X pins σ H' s'∧Vals vs us∧Q vs H'
def SP (X:Cx) (pins:List (Addr×Obj)) (D:Ends) (f:Flow) (s':Shared):Prop:=
 match f with
 | .next=>∃σ' H',Inv X pins σ' H' s'∧D.nx σ' H'
 | .brk=>∃σ' H',Inv X pins σ' H' s'∧D.bk σ' H'
 | .cont=>∃σ' H',Inv X pins σ' H' s'∧D.ct σ' H'
 | .ret u=>∃v σ' H',Inv X pins σ' H' s'∧RelV v u∧D.rt v H'
def PE (X:Cx) (e:Expr) (t:TE):Prop:=
 ∀(pins:List (Addr×Obj)) (s:Shared) (σ:St) (H:Hp) (Q:VK),Inv X pins σ H s→t σ H Q→wpAny (model X.prog X.w) X.A (eval e X.env) (EP X pins σ Q) X.xe s
def PT (X:Cx) (e:Expr) (t:TT):Prop:=
 ∀(pins:List (Addr×Obj)) (s:Shared) (σ:St) (H:Hp) (Q:Bool→Hp→Prop),Inv X pins σ H s→t σ H Q→wpAny (model X.prog X.w) X.A (isTrue e X.env (eval e X.env)) (TP X pins σ Q) X.xe s
def PW (X:Cx) (e:Expr) (t:TT):Prop:=
 ∀(whole:Sem Value) (pins:List (Addr×Obj)) (s:Shared) (σ:St) (H:Hp) (Q:Bool→Hp→Prop),Inv X pins σ H s→t σ H Q→wpAny (model X.prog X.w) X.A (isTrue e X.env whole) (TP X pins σ Q) X.xe s
theorem PW.pt {X:Cx} {e:Expr} {t:TT} (h:PW X e t):PT X e t:=h _
def PA (X:Cx) (es:List Expr) (t:TA):Prop:=
 ∀(pos:Pos) (pins:List (Addr×Obj)) (s:Shared) (σ:St) (H:Hp) (Q:List V→Hp→Prop),Inv X pins σ H s→t σ H Q→wpAny (model X.prog X.w) X.A (spliced (backTo pos (starEach es X.env))) (AP X pins σ Q) X.xe s
def PS (X:Cx) (st:Stmt) (t:TS):Prop:=
 ∀(pins:List (Addr×Obj)) (s:Shared) (σ:St) (H:Hp) (D:Ends),Inv X pins σ H s→t D σ H→wpAny (model X.prog X.w) X.A (exec st X.env) (SP X pins D) X.xe s
def PSs (X:Cx) (st:List Stmt) (t:TS):Prop:=
 ∀(pins:List (Addr×Obj)) (s:Shared) (σ:St) (H:Hp) (D:Ends),Inv X pins σ H s→t D σ H→wpAny (model X.prog X.w) X.A (execs st X.env) (SP X pins D) X.xe s
theorem thn {α:Type} {t:Sem α} {Q Q':α→Shared→Prop} {M:Model} {A:Around} {E:Value→Shared→Prop} {s:Shared} (h:wpAny M A t Q E s) (hQ:∀a s,Q a s→Q' a s):wpAny M A t Q' E s:=wpAny_mono h hQ fun _ _ x=>x
end L2
namespace L2
open PySem PySem.Spec PyProof.Rows
section
variable {X:Cx}
def tVar (i:Nat):TE:=fun σ H Q=>∃v,σ[i]?=some (some v)∧Q v H
def tC (v:V):TE:=fun _ H Q=>Q v H
theorem pe_var {i:Nat} {x:Str} {pos:Pos} (hN:X.N[i]?=some x) (hv:Vis X.env.scope x) (hd:(x==("__debug__":Str))=false:=by decide) (hcd:(x==("__classdict__":Str))=false:=by decide):PE X (.Name x pos) (tVar i):=by
 intro pins s σ H Q I h
 obtain ⟨v,e,h⟩:=h
 obtain ⟨m,hn,hl⟩:=I.loc
 obtain ⟨u,r,l⟩:=hl i x v hN e hv
 have fin:EP X pins σ Q u s:=⟨v,H,I,r,h⟩
 rcases l with ⟨hk,hm⟩ | ⟨hk,c,hc,hcell⟩
 ·exact wpAny_Name (wpAny_loadName_local I.ok.kind hk hn hm fin) hd
 ·rcases hk with hk | hk
  ·exact wpAny_Name (wpAny_loadName_cell I.ok.kind hk hc hcell fin) hd
  ·exact wpAny_Name (wpAny_loadName_free I.ok.kind hk hc hcell fin hcd) hd
theorem pe_int {i j pos}:PE X (.Constant (.int i) j pos) (tC (.int i)):=fun _ _ _ H _ I h=>wpAny_Constant_int ⟨.int i,H,I.tok _,⟨_,rfl⟩,h⟩
theorem pe_bl {b j pos}:PE X (.Constant (.bool b) j pos) (tC (.bl b)):=fun _ _ _ H _ I h=>Constant_bool ⟨.bl b,H,I,rfl,h⟩
theorem pe_non {j pos}:PE X (.Constant .none j pos) (tC .non):=fun _ _ _ H _ I h=>Constant_none ⟨.non,H,I,rfl,h⟩
theorem pe_str {x j pos}:PE X (.Constant (.str x) j pos) (tC (.str x)):=fun _ _ _ H _ I h=>Calls.Constant_str ⟨.str x,H,I.tok _,⟨_,rfl⟩,h⟩
def Gl (X:Cx) (x:Str):Prop:=X.env.kindOf x=some .globalImplicit
theorem ld_glob {E:Value→Shared→Prop} {pins:List (Addr×Obj)} {s:Shared} {σ:St} {H:Hp} {x:Str} {u:Value} {pos:Pos} {Q:Value→Shared→Prop} (I:Inv X pins σ H s) (hg:Gl X x) (hm:X.mg x=some u) (h:Q u s)
 (hd:(x==("__debug__":Str))=false:=by decide):wpAny (model X.prog X.w) X.A (eval (.Name x pos) X.env) Q E s:=
 Calls.Name_function_global I.ok.kind hg (Calls.loadGlobal_global (by rw [I.ok.glob];exact I.mod.glob.keeps I.bk) hm h) hd
theorem ld_blt {E:Value→Shared→Prop} {pins:List (Addr×Obj)} {s:Shared} {σ:St} {H:Hp} {x:Str} {u:Value} {pos:Pos} {Q:Value→Shared→Prop} (I:Inv X pins σ H s) (hg:Gl X x) (hm:X.mg x=none) (hv:bootBuiltins x=some u) (h:Q u s)
 (hn:x≠"__name__":=by decide) (hd:(x==("__debug__":Str))=false:=by decide):wpAny (model X.prog X.w) X.A (eval (.Name x pos) X.env) Q E s:=by
 obtain ⟨mb,h1,h2⟩:=I.mod.blt
 exact Calls.Name_function_global I.ok.kind hg (Calls.loadGlobal_builtin (by rw [I.ok.glob];exact I.mod.glob.keeps I.bk) hm (by rw [I.ok.blt];exact h1.keeps I.bk) ((h2 x hn).trans hv) h) hd
theorem pe_glob {x:Str} {v:V} {u:Value} {pos:Pos} (hg:Gl X x) (hm:X.mg x=some u) (r:RelV v u) (hd:(x==("__debug__":Str))=false:=by decide):PE X (.Name x pos) (tC v):=
 fun _ _ _ H _ I h=>ld_glob I hg hm ⟨v,H,I,r,h⟩ hd
variable {a b:Expr} {ta tb:TE} {pos:Pos}
def tB (t:TE):TT:=fun σ H Q=>t σ H fun x H1=>∃c,x=.bl c∧Q c H1
theorem pt_val {e:Expr} {t:TE} (h:PE X e t) (he:∀whole,isTrue e X.env whole=(do let v ←whole;standAt e.pos;holding [v] (truthy v)):=by intro _;rfl):PT X e (tB t):=by
 intro pins s σ H Q I hw
 refine isTrue_plain (thn (h pins s σ H _ I hw) fun v s1 ⟨x,H1,I1,r1,q1⟩=>?_) (he _)
 obtain ⟨d,rfl,q⟩:=q1
 cases r1
 exact wpAny_truthy_bool ⟨H1,I1,q⟩
variable {tA tB':TT} {rest:List Expr}
def tAnd (t u:TT):TT:=fun σ H Q=>t σ H fun c H1=>if c=true then u σ H1 Q else Q false H1
def tOr (t u:TT):TT:=fun σ H Q=>t σ H fun c H1=>if c=true then Q true H1 else u σ H1 Q
def tNot (t:TT):TT:=fun σ H Q=>t σ H fun c H1=>Q (!c) H1
theorem pw_and1 (ha:PT X a tA):PW X (.BoolOp .And [a] pos) tA:=by
 intro wh pins s σ H Q I h
 refine isTrue_and (thn (ha pins s σ H Q I h) fun c s1 e=>?_)
 cases c with
 | true=>exact isTrue_and_nil e
 | false=>exact e
theorem pw_or1 (ha:PT X a tA):PW X (.BoolOp .Or [a] pos) tA:=by
 intro wh pins s σ H Q I h
 refine isTrue_or (thn (ha pins s σ H Q I h) fun c s1 e=>?_)
 cases c with
 | false=>exact isTrue_or_nil e
 | true=>exact e
theorem pw_and (ha:PT X a tA) (hb:PW X (.BoolOp .And (b::rest) pos) tB'):PW X (.BoolOp .And (a::b::rest) pos) (tAnd tA tB'):=by
 intro wh pins s σ H Q I h
 refine isTrue_and (thn (ha pins s σ H _ I h) fun c s1 ⟨H1,I1,q1⟩=>?_)
 cases c with
 | true=>exact hb wh pins s1 σ H1 Q I1 q1
 | false=>exact ⟨H1,I1,q1⟩
theorem pw_or (ha:PT X a tA) (hb:PW X (.BoolOp .Or (b::rest) pos) tB'):PW X (.BoolOp .Or (a::b::rest) pos) (tOr tA tB'):=by
 intro wh pins s σ H Q I h
 refine isTrue_or (thn (ha pins s σ H _ I h) fun c s1 ⟨H1,I1,q1⟩=>?_)
 cases c with
 | true=>exact ⟨H1,I1,q1⟩
 | false=>exact hb wh pins s1 σ H1 Q I1 q1
theorem pt_not (ha:PT X a tA):PT X (.UnaryOp .Not a pos) (tNot tA):=by
 intro pins s σ H Q I h
 exact isTrue_not (ha pins s σ H (fun c H1=>Q (!c) H1) I h)
def tAndV (ta tb:TE):TE:=fun σ H Q=>ta σ H fun x H1=>∃c,x=.bl c∧if c=true then tb σ H1 Q else Q (.bl false) H1
def tOrV (ta tb:TE):TE:=fun σ H Q=>ta σ H fun x H1=>∃c,x=.bl c∧if c=true then Q (.bl true) H1 else tb σ H1 Q
def tNotV (ta:TE):TE:=fun σ H Q=>ta σ H fun x H1=>∃c,x=.bl c∧Q (.bl (!c)) H1
theorem pe_one {op} {t:TE} (h:PE X a t):PE X (.BoolOp op [a] pos) t:=fun pins s σ H Q I hw=>BoolOp_one (h pins s σ H Q I hw)
theorem pe_and (ha:PE X a ta) (hb:PE X (.BoolOp .And (b::rest) pos) tb):PE X (.BoolOp .And (a::b::rest) pos) (tAndV ta tb):=by
 intro pins s σ H Q I h
 refine BoolOp_and (thn (ha pins s σ H _ I h) fun v s1 ⟨x,H1,I1,r1,q1⟩=>?_)
 obtain ⟨c,rfl,q1⟩:=q1
 cases r1
 refine wpAny_truthy_bool ?_
 cases c with
 | true=>exact hb pins s1 σ H1 Q I1 q1
 | false=>exact ⟨.bl false,H1,I1,rfl,q1⟩
theorem pe_or (ha:PE X a ta) (hb:PE X (.BoolOp .Or (b::rest) pos) tb):PE X (.BoolOp .Or (a::b::rest) pos) (tOrV ta tb):=by
 intro pins s σ H Q I h
 refine BoolOp_or (thn (ha pins s σ H _ I h) fun v s1 ⟨x,H1,I1,r1,q1⟩=>?_)
 obtain ⟨c,rfl,q1⟩:=q1
 cases r1
 refine wpAny_truthy_bool ?_
 cases c with
 | false=>exact hb pins s1 σ H1 Q I1 q1
 | true=>exact ⟨.bl true,H1,I1,rfl,q1⟩
theorem pe_not (ha:PE X a ta):PE X (.UnaryOp .Not a pos) (tNotV ta):=by
 intro pins s σ H Q I h
 refine UnaryOp_ (thn (ha pins s σ H _ I h) fun v s1 ⟨x,H1,I1,r1,q1⟩=>?_)
 obtain ⟨c,rfl,q1⟩:=q1
 cases r1
 exact not_of (wpAny_truthy_bool ⟨.bl (!c),H1,I1,rfl,q1⟩)
def tIf (t:TT) (ta tb:TE):TE:=fun σ H Q=>t σ H fun c H1=>if c=true then ta σ H1 Q else tb σ H1 Q
theorem pe_ifExp {c:Expr} (hc:PT X c tA) (ha:PE X a ta) (hb:PE X b tb):PE X (.IfExp c a b pos) (tIf tA ta tb):=by
 intro pins s σ H Q I h
 refine wpAny_IfExp (thn (hc pins s σ H _ I h) fun d s1 ⟨H1,I1,q1⟩=>?_)
 cases d with
 | true=>exact ha pins s1 σ H1 Q I1 q1
 | false=>exact hb pins s1 σ H1 Q I1 q1
end
end L2
namespace L2
open PySem PySem.Spec PyProof.Rows
def SqL (K:PySem.W.Frag) (H:Hp) (a:Addr) (xs:List V):Prop:=
 Rd H a (.lst xs)∨
  ∃(o:Obj) (its:Array Value) (n:Nat),K.lookup a=some o∧o.cls=.type "list"∧o.dict=none∧o.data=.seq its n∧its.size≤sizeLine∧Vals xs its.toList
def SqT (K:PySem.W.Frag) (H:Hp) (a:Addr) (xs:List V):Prop:=
 Rd H a (.tup xs)∨
  ∃(o:Obj) (its:Array Value) (n:Nat),K.lookup a=some o∧o.cls=.type "tuple"∧o.data=.seq its n∧its.size≤sizeLine∧Vals xs its.toList
def absV:Value→Option V
 | .none=>some .non
 | .bool b=>some (.bl b)
 | .int i _=>some (.int i)
 | .str x _=>some (.str x)
 | .bytes b _=>some (.byt b)
 | .float b _=>some (.flt b)
 | .ref a=>some (.ref a)
 | .type n=>some (.ty n)
 | _=>none
theorem RelV.abs {x:V} {u:Value} (r:RelV x u):absV u=some x:=by
 cases x with
 | non=>cases r;rfl
 | bl _=>cases r;rfl
 | int _=>obtain ⟨t,rfl⟩:=r;rfl
 | str _=>obtain ⟨t,rfl⟩:=r;rfl
 | byt _=>obtain ⟨t,rfl⟩:=r;rfl
 | flt _=>obtain ⟨t,rfl⟩:=r;rfl
 | ref _=>cases r;rfl
 | ty _=>cases r;rfl
theorem RelV.inj {x y:V} {u:Value} (r:RelV x u) (q:RelV y u):x=y:=Option.some.inj (r.abs.symm.trans q.abs)
theorem Vals.inj:∀{xs ys:List V} {us:List Value},Vals xs us→Vals ys us→xs=ys
 | _,_,_,.nil,.nil=>rfl
 | _,_,_,.cons r t,.cons r' t'=>by rw [r.inj r',Vals.inj t t']
section
variable {X:Cx} {pins:List (Addr×Obj)} {σ:St} {H:Hp} {s:Shared} {a:Addr} {xs ys:List V}
theorem SqL.of {K:PySem.W.Frag} (h:H a=some (.lst xs)):SqL K H a xs:=.inl (.inl h)
theorem SqT.of {K:PySem.W.Frag} (h:H a=some (.tup xs)):SqT K H a xs:=.inl (.inl h)
theorem Inv.list (I:Inv X pins σ H s) (h:SqL X.K H a xs):∃its:List Value,Vals xs its∧PlainL s.heap a its.toArray∧xs.length≤sizeLine:=by
 rcases h with h | ⟨o,its,n,hk,hc,hd,hs,hz,r⟩
 ·obtain ⟨z,its,n,r,e⟩:=h.ok I.hok
  exact ⟨its,r,⟨_,n,e,rfl,rfl,rfl⟩,z⟩
 ·refine ⟨its.toList,r,⟨o,n,I.kIn a o hk,hc,hd,by simpa using hs⟩,?_⟩
  have e:=r.length
  simp only [Array.length_toList] at e
  omega
theorem Inv.tuple (I:Inv X pins σ H s) (h:SqT X.K H a xs):∃its:List Value,Vals xs its∧IsTup s.heap a its.toArray∧xs.length≤sizeLine:=by
 rcases h with h | ⟨o,its,n,hk,hc,hs,hz,r⟩
 ·obtain ⟨z,its,r,p⟩:=h.ok I.hok
  exact ⟨its,r,p,z⟩
 ·refine ⟨its.toList,r,⟨o,I.kIn a o hk,hc,n,by simpa using hs⟩,?_⟩
  have e:=r.length
  simp only [Array.length_toList] at e
  omega
theorem Inv.list_inj (I:Inv X pins σ H s) (h:SqL X.K H a xs) (h':SqL X.K H a ys):xs=ys:=by
 obtain ⟨its,r,⟨o,n,e,_,_,d⟩,_⟩:=I.list h
 obtain ⟨its',r',⟨o',n',e',_,_,d'⟩,_⟩:=I.list h'
 rw [e] at e';cases e'
 rw [d] at d'
 injection d' with d1 _
 have:its=its':=by simpa using congrArg Array.toList d1
 subst this
 exact r.inj r'
theorem Inv.tuple_inj (I:Inv X pins σ H s) (h:SqT X.K H a xs) (h':SqT X.K H a ys):xs=ys:=by
 obtain ⟨its,r,⟨o,e,_,n,d⟩,_⟩:=I.tuple h
 obtain ⟨its',r',⟨o',e',_,n',d'⟩,_⟩:=I.tuple h'
 rw [e] at e';cases e'
 rw [d] at d'
 injection d' with d1 _
 have:its=its':=by simpa using congrArg Array.toList d1
 subst this
 exact r.inj r'
end
abbrev Cx.wish (X:Cx) (E:Value→Shared→Prop):Cx:={X with xe:=E}
abbrev Cx.nox (X:Cx):Cx:=X.wish fun _ _=>False
theorem Cx.Ok.wish {X:Cx} (ok:X.Ok) (E:Value→Shared→Prop):(X.wish E).Ok:=
 ⟨ok.mod,ok.kind,ok.glob,ok.blt,ok.above,ok.inj,ok.has,ok.cab,ok.hd,ok.frames,ok.stk,ok.exf,ok.bs,ok.bsz,ok.noex,ok.exfs,ok.funs,ok.frf⟩
theorem Cx.Ok.unwish {X:Cx} {E:Value→Shared→Prop} (ok:(X.wish E).Ok):X.Ok:=
 ⟨ok.mod,ok.kind,ok.glob,ok.blt,ok.above,ok.inj,ok.has,ok.cab,ok.hd,ok.frames,ok.stk,ok.exf,ok.bs,ok.bsz,ok.noex,ok.exfs,ok.funs,ok.frf⟩
section
variable {X:Cx} {pins:List (Addr×Obj)} {σ:St} {H:Hp} {s:Shared} {E:Value→Shared→Prop}
theorem Inv.wish (I:Inv X pins σ H s) (E:Value→Shared→Prop):Inv (X.wish E) pins σ H s:=⟨I.ok.wish E,I.os,I.bare,I.base,I.loc,I.cell,I.free,I.freeC,I.pin,I.hok,I.len⟩
theorem Inv.unwish (I:Inv (X.wish E) pins σ H s):Inv X pins σ H s:=⟨I.ok.unwish,I.os,I.bare,I.base,I.loc,I.cell,I.free,I.freeC,I.pin,I.hok,I.len⟩
theorem SP.unwish {D:Ends} {f:Flow} {s':Shared} (h:SP (X.wish E) pins D f s'):SP X pins D f s':=by
 cases f with
 | next=>obtain ⟨σ',H',I,q⟩:=h;exact ⟨σ',H',I.unwish,q⟩
 | brk=>obtain ⟨σ',H',I,q⟩:=h;exact ⟨σ',H',I.unwish,q⟩
 | cont=>obtain ⟨σ',H',I,q⟩:=h;exact ⟨σ',H',I.unwish,q⟩
 | ret u=>obtain ⟨v,σ',H',I,r,q⟩:=h;exact ⟨v,σ',H',I.unwish,r,q⟩
theorem PSs.nox {st:List Stmt} {t:TS} (h:PSs X.nox st t):PSs X st t:=fun pins s σ H D I hw=>
 wpAny_mono (h pins s σ H D (I.wish _) hw) (fun _ _ q=>q.unwish) fun _ _ z=>False.elim z
end
section
variable {X:Cx} {st:Stmt} {rest:List Stmt} {t u:TS} {e:Expr} {te:TE} {pos:Pos}
def tNext:TS:=fun D σ H=>D.nx σ H
def tSeq (t u:TS):TS:=fun D σ H=>t {D with nx:=u D} σ H
theorem pss_nil:PSs X [] tNext:=fun _ _ σ H _ I h=>wpAny_execs_nil ⟨σ,H,I,h⟩
theorem pss_cons (h1:PS X st t) (h2:PSs X rest u):PSs X (st::rest) (tSeq t u):=by
 intro pins s σ H D I h
 refine wpAny_execs_cons (thn (h1 pins s σ H {D with nx:=u D} I h) fun f s1 q=>?_)
 cases f with
 | next=>
  obtain ⟨σ',H',I',q⟩:=q
  exact h2 pins s1 σ' H' D I' q
 | ret v=>exact q
 | brk=>exact q
 | cont=>exact q
theorem pss_one (h1:PS X st t):PSs X [st] t:=by
 intro pins s σ H D I h
 refine wpAny_execs_cons (thn (h1 pins s σ H D I h) fun f s1 q=>?_)
 cases f with
 | next=>exact wpAny_execs_nil q
 | ret v=>exact q
 | brk=>exact q
 | cont=>exact q
theorem Inv.quiet {pins:List (Addr×Obj)} {σ:St} {H:Hp} {s:Shared} (I:Inv X pins σ H s):interactive X.env=false:=by simp [interactive,I.ok.kind]
def tDrop (te:TE):TS:=fun D σ H=>te σ H fun _ H1=>D.nx σ H1
theorem ps_expr (he:PE X e te) (hs:swapsWith e none pos.line X.env=pure false:=by rfl):PS X (.Expr e pos) (tDrop te):=by
 intro pins s σ H D I h
 exact wpAny_Expr_any (thn (he pins s σ H _ I h) fun v s1 ⟨x,H1,I1,r1,q1⟩=>⟨σ,H1,I1,q1⟩) I.quiet hs
def tRet (te:TE):TS:=fun D σ H=>te σ H D.rt
theorem ps_ret (he:PE X e te):PS X (.Return (some e) pos) (tRet te):=by
 intro pins s σ H D I h
 exact wpAny_Return_some (thn (he pins s σ H _ I h) fun v s1 ⟨x,H1,I1,r1,q1⟩=>⟨x,σ,H1,I1,r1,q1⟩)
def tIfS (c:TT) (t u:TS):TS:=fun D σ H=>c σ H fun b H1=>if b=true then t D σ H1 else u D σ H1
theorem ps_if {c:Expr} {a b:List Stmt} {tc:TT} (hc:PT X c tc) (ha:PSs X a t) (hb:PSs X b u):PS X (.If c a b pos) (tIfS tc t u):=by
 intro pins s σ H D I h
 refine wpAny_If (thn (hc pins s σ H _ I h) fun d s1 ⟨H1,I1,q1⟩=>?_)
 cases d with
 | true=>exact ha pins s1 σ H1 D I1 q1
 | false=>exact hb pins s1 σ H1 D I1 q1
end
abbrev TG:=V→St→Hp→(St→Hp→Prop)→Prop
abbrev TGs:=List V→St→Hp→(St→Hp→Prop)→Prop
def PG (X:Cx) (target:Expr) (t:TG):Prop:=
 ∀(pins:List (Addr×Obj)) (s:Shared) (σ:St) (H:Hp) (v:V) (u:Value) (Q:St→Hp→Prop),Inv X pins σ H s→RelV v u→t v σ H Q→
  wpAny (model X.prog X.w) X.A (assign target X.env u) (fun _ s'=>∃σ' H',Inv X pins σ' H' s'∧Q σ' H') X.xe s
def PGs (X:Cx) (ts:List Expr) (t:TGs):Prop:=
 ∀(pins:List (Addr×Obj)) (s:Shared) (σ:St) (H:Hp) (vs:List V) (us:List Value) (Q:St→Hp→Prop),Inv X pins σ H s→Vals vs us→t vs σ H Q→
  wpAny (model X.prog X.w) X.A (assignInOrder ((assignEach ts X.env).map (·.2)) us) (fun _ s'=>∃σ' H',Inv X pins σ' H' s'∧Q σ' H') X.xe s
abbrev TIp:=V→V→Hp→VK→Prop
def PIp (X:Cx) (op:Operator) (t:TIp):Prop:=
 ∀(pins:List (Addr×Obj)) (s:Shared) (σ:St) (H:Hp) (x y:V) (v u:Value) (Q:VK),Inv X pins σ H s→RelV x v→RelV y u→t x y H Q→
  wpAny (model X.prog X.w) X.A (inplaceOp op v u) (EP X pins σ Q) X.xe s
section
variable {X:Cx} {pos:Pos}
def gName (i:Nat):TG:=fun v σ H Q=>Q (σ.set i (some v)) H
theorem pg_name {i:Nat} {x:Str} (hN:X.N.Nodup) (hi:X.N[i]?=some x) (hx:Loc X.env.scope x) (hf:X.fn x=true∨X.env.scope.names.lookup x=some .local:=by first | exact .inl rfl | exact .inr rfl | assumption):PG X (.Name x pos) (gName i):=by
 intro pins s σ H v u Q I r h
 exact wpAny_assign_Name (store_ok I hN hi hx r (fun s' I'=>⟨_,H,I',h⟩) hf)
def gNil:TGs:=fun vs σ H Q=>vs=[]∧Q σ H
def gCons (t:TG) (u:TGs):TGs:=fun vs σ H Q=>∃v r,vs=v::r∧t v σ H fun σ' H'=>u r σ' H' Q
theorem pgs_nil:PGs X [] gNil:=by
 intro pins s σ H vs us Q I r h
 obtain ⟨e,h⟩:=h
 subst e
 cases r
 exact assignInOrder_nil ⟨σ,H,I,h⟩
theorem pgs_cons {e:Expr} {es:List Expr} {t:TG} {u:TGs} (h1:PG X e t) (h2:PGs X es u)
 (hs:(assignEach (e::es) X.env).map (·.2)=assign e X.env::(assignEach es X.env).map (·.2):=by rfl):PGs X (e::es) (gCons t u):=by
 intro pins s σ H vs us Q I r h
 obtain ⟨v,vr,e1,h⟩:=h
 subst e1
 cases r with
 | cons r rr=>
  rw [hs]
  refine assignInOrder_cons (thn (h1 pins s σ H _ _ _ I r h) fun _ s1 ⟨σ1,H1,I1,q1⟩=>?_)
  exact h2 pins s1 σ1 H1 _ _ Q I1 rr q1
def gTup (K:PySem.W.Frag) (n:Nat) (t:TGs):TG:=fun v σ H Q=>∃a xs,v=.ref a∧SqT K H a xs∧xs.length=n∧t xs σ H Q
theorem pg_tup {es:List Expr} {k:Nat} {t:TGs} {n:Nat} (hc:X.calm=true) (h:PGs X es t)
 (hn:(assignEach es X.env).length=n:=by rfl) (hst:(assignEach es X.env).findIdx? (·.1)=none:=by rfl):PG X (.Tuple es k pos) (gTup X.K n t):=by
 intro pins s σ H v u Q I r hw
 obtain ⟨a,xs,e1,hq,hl,hw⟩:=hw
 subst e1
 cases r
 obtain ⟨its,rv,ht,hz⟩:=I.tuple hq
 refine assign_Tuple_tuple (I.ok.hd hc) ht (by simp [hn,←hl,rv.length]) hst fun h' hx=>?_
 have I1:Inv X pins σ H {s with heap:=h'}:=I.kept (t':=s.toks) fun b o e=>hx b o (Nat.ne_of_lt (Heap.lt_size e)) e
 exact h pins _ σ H xs _ Q I1 (by simpa using rv) hw
def tAsg (te:TE) (g:TG):TS:=fun D σ H=>te σ H fun x H1=>g x σ H1 D.nx
theorem ps_set {i:Nat} {x:Str} {e:Expr} {te:TE} {pos':Pos} (hN:X.N.Nodup) (hi:X.N[i]?=some x) (hx:Loc X.env.scope x) (he:PE X e te) (hs:swapsWith e (some (.Name x pos')) pos.line X.env=pure false:=by rfl) (hf:X.fn x=true∨X.env.scope.names.lookup x=some .local:=by first | exact .inl rfl | exact .inr rfl | assumption):
 PS X (.Assign [.Name x pos'] e pos) (tAsg te (gName i)):=by
 intro pins s σ H D I h
 refine wpAny_Assign_Name (thn (he pins s σ H _ I h) fun v s1 ⟨y,H1,I1,r1,q1⟩=>?_) hs
 exact store_ok I1 hN hi hx r1 (fun s2 I2=>⟨_,H1,I2,q1⟩) hf
def tAug (i:Nat) (te:TE) (ti:TIp):TS:=fun D σ H=>∃x,σ[i]?=some (some x)∧te σ H fun y H1=>ti x y H1 fun z H2=>D.nx (σ.set i (some z)) H2
theorem ps_aug {i:Nat} {x:Str} {e:Expr} {te:TE} {op:Operator} {ti:TIp} {pos':Pos} (hN:X.N.Nodup) (hi:X.N[i]?=some x) (hx:Loc X.env.scope x) (he:PE X e te) (ho:PIp X op ti) (hf:X.fn x=true∨X.env.scope.names.lookup x=some .local:=by first | exact .inl rfl | exact .inr rfl | assumption):
 PS X (.AugAssign (.Name x pos') op e pos) (tAug i te ti):=by
 intro pins s σ H D I h
 obtain ⟨v,e1,h⟩:=h
 obtain ⟨m,hn,hl⟩:=I.loc
 have vis:Vis X.env.scope x:=by rcases hx with k | k;exact .inl k;exact .inr (.inl k)
 obtain ⟨u,r,l⟩:=hl i x v hi e1 vis
 refine wpAny_AugAssign_Name ?_
 have go:wpAny (model X.prog X.w) X.A (eval e X.env) (fun w s₂=>wpAny (model X.prog X.w) X.A (inplaceOp op u w) (fun r s₃=>wpAny (model X.prog X.w) X.A (storeName X.env x r) (fun _=>SP X pins D .next) X.xe s₃) X.xe s₂) X.xe s:=by
  refine thn (he pins s σ H _ I h) fun w s1 ⟨y,H1,I1,r1,q1⟩=>?_
  refine thn (ho pins s1 σ H1 v y u w _ I1 r r1 q1) fun z s2 ⟨zv,H2,I2,r2,q2⟩=>?_
  exact store_ok I2 hN hi hx r2 (fun s3 I3=>⟨_,H2,I3,q2⟩) hf
 rcases l with ⟨hk,hm⟩ | ⟨hk,c,hc,hcell⟩
 ·exact wpAny_loadName_local I.ok.kind hk hn hm go
 ·rcases hk with hk | hk
  ·exact wpAny_loadName_cell I.ok.kind hk hc hcell go
  ·rcases hx with k | k
   ·have:X.env.scope.names.lookup x=some .free:=hk
    rw [k] at this;cases this
   ·have:X.env.scope.names.lookup x=some .free:=hk
    rw [k] at this;cases this
end
section
variable {X:Cx} {pos:Pos}
def tWhile (c:TT) (tb:TS):TS:=fun D σ H=>∃W:Nat→St→Hp→Prop,(∃m,W m σ H)∧∀m σ H,W m σ H→
 c σ H fun b H1=>if b=true then ∃N:St→Hp→Prop,(∀σ' H',N σ' H'→∃m',m' < m∧W m' σ' H')∧tb {D with nx:=N,ct:=N,bk:=D.nx} σ H1 else D.nx σ H1
theorem ps_while {c:Expr} {body:List Stmt} {tc:TT} {tb:TS} (hp:PassesOwn (model X.prog X.w) X.A X.env X.xe) (hc:PT X c tc) (hb:PSs X body tb):PS X (.While c body [] pos) (tWhile tc tb):=by
 intro pins s σ H D I h
 obtain ⟨W,⟨m0,w0⟩,turn⟩:=h
 refine wpAny_While (codeAny_whileLoop (fun n s'=>∃σ' H',Inv X pins σ' H' s'∧W n σ' H') ?_ m0 ⟨σ,H,I,w0⟩)
 rintro n s1 ⟨σ1,H1,I1,w1⟩
 refine wpAny_passesOwn hp (thn (hc pins s1 σ1 H1 _ I1 (turn n σ1 H1 w1)) fun b s2 ⟨H2,I2,q2⟩=>?_)
 cases b with
 | true=>
  obtain ⟨N,hN,q2⟩:=q2
  rw [if_pos rfl]
  refine wpAny_passesOwn hp (thn (hb pins s2 σ1 H2 _ I2 q2) fun f s3 q3=>?_)
  cases f with
  | next=>
   obtain ⟨σ3,H3,I3,n3⟩:=q3
   obtain ⟨m',hm,w3⟩:=hN σ3 H3 n3
   exact ⟨m',hm,σ3,H3,I3,w3⟩
  | cont=>
   obtain ⟨σ3,H3,I3,n3⟩:=q3
   obtain ⟨m',hm,w3⟩:=hN σ3 H3 n3
   exact ⟨m',hm,σ3,H3,I3,w3⟩
  | brk=>exact q3
  | ret v=>exact q3
 | false=>
  rw [if_neg Bool.false_ne_true]
  exact wpAny_execs_nil ⟨σ1,H2,I2,q2⟩
end
structure It where
 go:Nat→Hp→Prop
 yld:Nat→Hp→V→Hp→Prop
 stop:Nat→Hp→Prop
def FpOk (X:Cx) (pins:List (Addr×Obj)) (H:Hp) (b:Addr):Prop:=
 H b=none∧b≠X.env.locals∧b ∉ X.fs∧(b∈X.ex∨X.s_0.heap.objs.size≤b)∧(∀x c,X.env.cells.lookup x=some c→c≠b)∧∀p∈X.pn++pins,p.1≠b
theorem Inv.fpOk {X:Cx} {pins:List (Addr×Obj)} {σ:St} {H H':Hp} {s:Shared} {b:Addr} (I:Inv X pins σ H s) (hb:s.heap.objs.size≤b) (hn:H' b=none):FpOk X pins H' b:=by
 refine ⟨hn,Nat.ne_of_gt (Nat.lt_of_lt_of_le I.lt hb),I.nofs hb,.inr (Nat.le_trans I.sz hb),fun x c e z=>?_,fun p hp z=>?_⟩
 ·obtain ⟨v,q⟩:=I.cell x c e
  exact absurd (Nat.lt_of_lt_of_le q.lt (by rw [z];exact hb)) (Nat.lt_irrefl _)
 ·exact absurd (Nat.lt_of_lt_of_le (Heap.lt_size (I.pin p hp).1) (by rw [z];exact hb)) (Nat.lt_irrefl _)
structure Turn (P:Program) (w:World) (K:PySem.W.Frag) (tg:Expr) (J:It) (fp:List Addr) (it:Addr) (tn:Nat→Heap→Prop):Prop where
 mem:it∈fp
 obj:∀i h,tn i h→∀b∈fp,∃o,h.get? b=some o∧∀v,o.data≠.cell v
 keep:∀i h h',tn i h→(∀b∈fp,∀o,h.get? b=some o→h'.get? b=some o)→tn i h'
 item:∀(X:Cx),X.prog=P→X.w=w→X.K=K→X.calm=true→∀(i:Nat) (pins:List (Addr×Obj)) (s:Shared) (σ:St) (H:Hp) (E:Value→Shared→Prop),Inv X pins σ H s→(∀b∈fp,FpOk X pins H b)→tn i s.heap→J.go i H→
  wpAny (model P w) X.A (pyNext (.ref it)) (fun r s1=>∃u,r=some u∧
   wpAny (model P w) X.A (letOwnedTupleGo tg (.ref it) u) (fun _ s2=>∃x H',Inv X pins σ H' s2∧RelV x u∧J.yld i H x H'∧tn (i + 1) s2.heap∧∀b∈fp,H' b=none) E s1) E s
 done:∀(X:Cx),X.prog=P→X.w=w→X.K=K→X.calm=true→∀(i:Nat) (pins:List (Addr×Obj)) (s:Shared) (σ:St) (H:Hp) (E:Value→Shared→Prop),Inv X pins σ H s→(∀b∈fp,FpOk X pins H b)→tn i s.heap→J.stop i H→
  wpAny (model P w) X.A (pyNext (.ref it)) (fun r s1=>r=none∧Inv X pins σ H s1) E s
 self:∀(A:Around) (i:Nat) (s:Shared) (Q:Value→Shared→Prop) (E:Value→Shared→Prop),tn i s.heap→Q (.ref it) s→wpAny (model P w) A (pyIter (.ref it)) Q E s
abbrev TI:=St→Hp→(It→Hp→Prop)→Prop
def PIE (X:Cx) (pins:List (Addr×Obj)) (σ:St) (tg:Expr) (R:It→Hp→Prop) (itv:Value) (s2:Shared):Prop:=
 ∃(it:Addr) (fp:List Addr) (tn:Nat→Heap→Prop) (J:It) (H':Hp),itv=.ref it∧Inv X pins σ H' s2∧Turn X.prog X.w X.K tg J fp it tn∧tn 0 s2.heap∧(∀b∈fp,FpOk X pins H' b)∧R J H'
def PI (X:Cx) (tg iter:Expr) (wi:TI):Prop:=
 ∀(pins:List (Addr×Obj)) (s:Shared) (σ:St) (H:Hp) (R:It→Hp→Prop),Inv X pins σ H s→wi σ H R→
  wpAny (model X.prog X.w) X.A (eval iter X.env) (fun v s1=>wpAny (model X.prog X.w) X.A (pyIter v) (PIE X pins σ tg R) X.xe s1) X.xe s
theorem go_of {M:Model} {A:Around} {E:Value→Shared→Prop} {s:Shared} {tg:Expr} {it:Addr} {u:Value} {o:Obj} {n:String} {vs:Array Value} {Q:Unit→Shared→Prop} (ho:s.heap.get? it=some o) (hc:o.cls=.type n) (hd:o.data=.fields vs)
 (hn:["enumerate","zip","dict_itemiterator","dict_reverseitemiterator","odict_iterator","itertools.zip_longest","itertools.pairwise"].contains n=false) (hQ:Q () s):wpAny M A (letOwnedTupleGo tg (.ref it) u) Q E s:=by
 unfold letOwnedTupleGo
 cases tg<;>first
  | exact wpAny_pure hQ
  | (cases u<;>first
   | exact wpAny_pure hQ
   | (refine wpAny_bind (wpAny_load ho ?_)
      rw [hc,hd]
      show wpAny M A (if (["enumerate","zip","dict_itemiterator","dict_reverseitemiterator","odict_iterator","itertools.zip_longest","itertools.pairwise"].contains n&&vs[0]?==some (rawInt _))=true then _ else _) Q E s
      rw [if_neg (by intro h;rw [hn,Bool.false_and] at h;cases h)]
      exact wpAny_pure hQ))
def Itl (K:PySem.W.Frag) (a:Addr):It:=
 ⟨fun i H=>∃xs x,SqL K H a xs∧xs[i]?=some x,fun i H x H'=>H'=H∧∀xs,SqL K H a xs→xs[i]?=some x,fun i H=>∃xs,SqL K H a xs∧xs.length≤i⟩
def Itt (K:PySem.W.Frag) (a:Addr):It:=
 ⟨fun i H=>∃xs x,SqT K H a xs∧xs[i]?=some x,fun i H x H'=>H'=H∧∀xs,SqT K H a xs→xs[i]?=some x,fun i H=>∃xs,SqT K H a xs∧xs.length≤i⟩
def Itr (lo:Int) (n:Nat):It:=⟨fun i _=>i < n,fun i H x H'=>H'=H∧x=.int (lo + i),fun i _=>n≤i⟩
theorem turn_list {P:Program} {w:World} {K:PySem.W.Frag} {tg:Expr} (a it:Addr):Turn P w K tg (Itl K a) [it] it (fun i h=>h.IsListIter it a i) where
 mem:=by simp
 obj:=fun i h st b hb=>by
  have e:b=it:=by simpa using hb
  subst e
  obtain ⟨o,e,c,d⟩:=st
  exact ⟨o,e,fun v z=>by rw [d] at z;cases z⟩
 keep:=fun i h h' st k=>st.at fun o e=>k it (by simp) o e
 item:=by
  intro X hP hw hK hc i pins s σ H E I hf st hg
  subst hP hw hK
  obtain ⟨xs,x,hq,hx⟩:=hg
  obtain ⟨its,rv,p,hz⟩:=I.list hq
  obtain ⟨u,hu,ru⟩:=rv.get hx
  obtain ⟨f0,f1,f2,f3,f4,f5⟩:=hf it (by simp)
  refine wpAny_pyNext_list_item st p.isList (x:=u) (by simpa using hu) fun h' st' sb=>?_
  have I1:Inv X pins σ H {s with heap:=h'}:=I.turned (t':=s.toks) (fun b o hb e=>(sb.2 b hb).trans e) f0 f1 f3 f4 f5
  obtain ⟨o,e,c,d⟩:=id st'
  exact ⟨u,rfl,go_of (s:={s with heap:=h'}) e c d (by decide) ⟨x,H,I1,ru,⟨rfl,fun ys hy=>by rw [I.list_inj hy hq];exact hx⟩,st',fun b hb=>(hf b hb).1⟩⟩
 done:=by
  intro X hP hw hK hc i pins s σ H E I hf st hg
  subst hP hw hK
  obtain ⟨xs,hq,hx⟩:=hg
  obtain ⟨its,rv,p,hz⟩:=I.list hq
  obtain ⟨f0,f1,f2,f3,f4,f5⟩:=hf it (by simp)
  have hl:=rv.length
  exact wpAny_pyNext_list_end (I.ok.hd hc) st p.isList (by simp;omega) fun h' eb=>⟨rfl,I.turned (t':=s.toks) (fun b o hb e=>eb b o hb e) f0 f1 f3 f4 f5⟩
 self:=fun _ _ _ _ _ st h=>wpAny_pyIter_listiter st h
theorem turn_tuple {P:Program} {w:World} {K:PySem.W.Frag} {tg:Expr} (a it:Addr):Turn P w K tg (Itt K a) [it] it (fun i h=>h.IsTupleIter it a i) where
 mem:=by simp
 obj:=fun i h st b hb=>by
  have e:b=it:=by simpa using hb
  subst e
  obtain ⟨o,e,c,d⟩:=st
  exact ⟨o,e,fun v z=>by rw [d] at z;cases z⟩
 keep:=fun i h h' st k=>st.at fun o e=>k it (by simp) o e
 item:=by
  intro X hP hw hK hc i pins s σ H E I hf st hg
  subst hP hw hK
  obtain ⟨xs,x,hq,hx⟩:=hg
  obtain ⟨its,rv,p,hz⟩:=I.tuple hq
  obtain ⟨u,hu,ru⟩:=rv.get hx
  obtain ⟨f0,f1,f2,f3,f4,f5⟩:=hf it (by simp)
  refine wpAny_pyNext_tuple_item st (show s.heap.IsTuple a its.toArray from p) (x:=u) (by simpa using hu) fun h' st' sb=>?_
  have I1:Inv X pins σ H {s with heap:=h'}:=I.turned (t':=s.toks) (fun b o hb e=>(sb.2 b hb).trans e) f0 f1 f3 f4 f5
  obtain ⟨o,e,c,d⟩:=id st'
  exact ⟨u,rfl,go_of (s:={s with heap:=h'}) e c d (by decide) ⟨x,H,I1,ru,⟨rfl,fun ys hy=>by rw [I.tuple_inj hy hq];exact hx⟩,st',fun b hb=>(hf b hb).1⟩⟩
 done:=by
  intro X hP hw hK hc i pins s σ H E I hf st hg
  subst hP hw hK
  obtain ⟨xs,hq,hx⟩:=hg
  obtain ⟨its,rv,p,hz⟩:=I.tuple hq
  obtain ⟨f0,f1,f2,f3,f4,f5⟩:=hf it (by simp)
  have hl:=rv.length
  exact wpAny_pyNext_tuple_end (I.ok.hd hc) st (show s.heap.IsTuple a its.toArray from p) (by simp;omega) fun h' eb=>⟨rfl,I.turned (t':=s.toks) (fun b o hb e=>eb b o hb e) f0 f1 f3 f4 f5⟩
 self:=fun _ _ _ _ _ st h=>wpAny_pyIter_tupleiter st h
theorem turn_range {P:Program} {w:World} {K:PySem.W.Frag} {tg:Expr} (it:Addr) (lo:Int) (n:Nat):Turn P w K tg (Itr lo n) [it] it (fun i h=>IsRangeIter h it (lo + (i:Nat) * 1) ((n:Int) - (i:Nat)) 1) where
 mem:=by simp
 obj:=fun i h st b hb=>by
  have e:b=it:=by simpa using hb
  subst e
  exact ⟨_,st,fun v z=>by
   have z':Data.fields _=Data.cell v:=z
   cases z'⟩
 keep:=fun i h h' st k=>k it (by simp) _ st
 item:=by
  intro X hP hw hK hc i pins s σ H E I hf st hg
  subst hP hw hK
  obtain ⟨f0,f1,f2,f3,f4,f5⟩:=hf it (by simp)
  have W:=Walks.range (prog:=X.prog) (w:=X.w) (I.ok.hd hc) it lo 1 n
  refine W.item i s _ _ hg st fun v h' tk hv st' kk=>?_
  obtain ⟨t,rfl⟩:=hv
  have I1:Inv X pins σ H {s with heap:=h',toks:=tk}:=I.turned (fun b o hb e=>kk b o (by simpa using hb) e) f0 f1 f3 f4 f5
  refine ⟨_,rfl,go_of (s:={s with heap:=h',toks:=tk}) (n:="range_iterator") st' rfl rfl (by decide) ⟨.int (lo + i),H,I1,⟨t,?_⟩,⟨rfl,rfl⟩,st',fun b hb=>(hf b hb).1⟩⟩
  rw [Int.mul_one]
 done:=by
  intro X hP hw hK hc i pins s σ H E I hf st hg
  subst hP hw hK
  obtain ⟨f0,f1,f2,f3,f4,f5⟩:=hf it (by simp)
  exact wpAny_pyNext_range_end (I.ok.hd hc) st (by have:n≤i:=hg;omega) fun h' eb=>⟨rfl,I.turned (t':=s.toks) (fun b o hb e=>eb b o hb e) f0 f1 f3 f4 f5⟩
 self:=fun _ _ _ _ _ st h=>wpAny_pyIter_rangeiter st h
end L2
namespace L2
open PySem PySem.Spec PyProof.Rows
section
variable {X:Cx} {tg:Expr}
def iList (K:PySem.W.Frag) (tl:TE):TI:=fun σ H R=>tl σ H fun x H1=>∃a,x=.ref a∧(∃xs,SqL K H1 a xs)∧R (Itl K a) H1
def iTup (K:PySem.W.Frag) (tl:TE):TI:=fun σ H R=>tl σ H fun x H1=>∃a,x=.ref a∧(∃xs,SqT K H1 a xs)∧R (Itt K a) H1
theorem pi_list {l:Expr} {tl:TE} (hl:PE X l tl):PI X tg l (iList X.K tl):=by
 intro pins s σ H R I h
 refine thn (hl pins s σ H _ I h) fun v s1 ⟨x,H1,I1,r1,q1⟩=>?_
 obtain ⟨a,e,⟨xs,hq⟩,q⟩:=q1
 subst e
 cases r1
 obtain ⟨its,rv,p,hz⟩:=I1.list hq
 refine wpAny_pyIter_list p.isList ?_
 refine ⟨s1.heap.objs.size,[s1.heap.objs.size],_,_,H1,rfl,I1.kept (t':=s1.toks) fun b o e=>Heap.get?_push_of_some _ e,turn_list a _,⟨_,Heap.get?_push_size _ rfl,rfl,rfl⟩,fun b hb=>?_,q⟩
 have e:b=s1.heap.objs.size:=by simpa using hb
 subst e
 exact I1.fpOk (Nat.le_refl _) (I1.hok.fresh (Nat.le_refl _))
theorem pi_tup {l:Expr} {tl:TE} (hl:PE X l tl):PI X tg l (iTup X.K tl):=by
 intro pins s σ H R I h
 refine thn (hl pins s σ H _ I h) fun v s1 ⟨x,H1,I1,r1,q1⟩=>?_
 obtain ⟨a,e,⟨xs,hq⟩,q⟩:=q1
 subst e
 cases r1
 obtain ⟨its,rv,p,hz⟩:=I1.tuple hq
 refine wpAny_pyIter_tuple (show s1.heap.IsTuple a its.toArray from p) ?_
 refine ⟨s1.heap.objs.size,[s1.heap.objs.size],_,_,H1,rfl,I1.kept (t':=s1.toks) fun b o e=>Heap.get?_push_of_some _ e,turn_tuple a _,⟨_,Heap.get?_push_size _ rfl,rfl,rfl⟩,fun b hb=>?_,q⟩
 have e:b=s1.heap.objs.size:=by simpa using hb
 subst e
 exact I1.fpOk (Nat.le_refl _) (I1.hok.fresh (Nat.le_refl _))
theorem range_it {pins:List (Addr×Obj)} {σ:St} {H:Hp} {s:Shared} {R:It→Hp→Prop} {E:Value→Shared→Prop} {lo hi:Int} {t u v:Tok} {tk:Nat} (I:Inv X pins σ H s) (h1:-(2 ^ 62)≤lo) (h2:lo < 2 ^ 62) (h3:-(2 ^ 62)≤hi) (h4:hi < 2 ^ 62)
 (q:R (Itr lo (hi - lo).toNat) H):wpAny (model X.prog X.w) X.A (pyIter (.ref s.heap.objs.size)) (PIE X pins σ tg R) E {s with heap:=s.heap.push {cls:=.type "range",data:=.fields #[.int lo t,.int hi u,.int 1 v]},toks:=tk}:=by
 refine wpAny_pyIter_range (IsRange.new ..) (small_one h1 h2 h3 h4) ?_
 have I1:Inv X pins σ H {s with heap:=s.heap.push {cls:=.type "range",data:=.fields #[.int lo t,.int hi u,.int 1 v]},toks:=tk}:=I.kept fun b o e=>Heap.get?_push_of_some _ e
 refine ⟨(s.heap.push {cls:=.type "range",data:=.fields #[.int lo t,.int hi u,.int 1 v]}).objs.size,[(s.heap.push {cls:=.type "range",data:=.fields #[.int lo t,.int hi u,.int 1 v]}).objs.size],_,_,H,rfl,
  I1.kept (t':=tk) fun b o e=>Heap.get?_push_of_some _ e,turn_range _ lo (hi - lo).toNat,?_,fun b hb=>?_,q⟩
 ·have e1:lo + ((0:Nat):Int) * 1=lo:=by simp
  have e2:(((hi - lo).toNat:Nat):Int) - ((0:Nat):Int)=Builtin.Range.rangeSize lo hi 1:=by rw [rangeSize_one];split<;>omega
  show IsRangeIter _ _ (lo + ((0:Nat):Int) * 1) ((((hi - lo).toNat:Nat):Int) - ((0:Nat):Int)) 1
  rw [e1,e2]
  exact Heap.get?_push_size _ rfl
 ·have e:b=(s.heap.push {cls:=.type "range",data:=.fields #[.int lo t,.int hi u,.int 1 v]}).objs.size:=by simpa using hb
  subst e
  exact I1.fpOk (Nat.le_refl _) (I1.hok.fresh (Nat.le_refl _))
def iRng2 (ta:TA):TI:=fun σ H R=>ta σ H fun vs H1=>∃i j:Int,vs=[.int i,.int j]∧(-(2 ^ 62)≤i∧i < 2 ^ 62∧-(2 ^ 62)≤j∧j < 2 ^ 62)∧R (Itr i (j - i).toNat) H1
theorem pi_range2 {a b:Expr} {ta:TA} {p pos:Pos} (hg:Gl X "range") (hm:X.mg "range"=none) (ha:PA X [a,b] ta) (hs:starEach [a,b] X.env=[(false,eval a X.env),(false,eval b X.env)]:=by rfl) (hs2:starEach [b] X.env=[(false,eval b X.env)]:=by rfl):
 PI X tg (.Call (.Name "range" p) [a,b] [] pos) (iRng2 ta):=by
 intro pins s σ H R I h
 refine Call_ (ld_blt I hg hm boot_range (PyProof.Rows.callWith_type1 (thn (ha pos pins s σ H _ I h) fun us s1 ⟨vs,H1,I1,r1,q1⟩=>?_) (by rw [hs,hs2]) (by rw [hs2];rfl)))
 obtain ⟨i,j,e,⟨q1,q2,q3,q4⟩,q⟩:=q1
 subst e
 cases r1 with
 | cons r rr=>
  cases rr with
  | cons r' rr=>
   cases rr
   obtain ⟨t,rfl⟩:=r
   obtain ⟨t',rfl⟩:=r'
   exact call_range_2 (range_it I1 q1 q2 q3 q4 q)
def tFor (wi:TI) (g:TG) (tb:TS):TS:=fun D σ H=>wi σ H fun J H1=>∃W:Nat→Nat→St→Hp→Prop,(∃m,W 0 m σ H1)∧∀i m σ H,W i m σ H→
 (J.stop i H∧D.nx σ H)∨(J.go i H∧∃N:St→Hp→Prop,(∀σ' H',N σ' H'→∃m',m' < m∧W (i + 1) m' σ' H')∧∀x H',J.yld i H x H'→g x σ H' fun σ2 H2=>tb {D with nx:=N,ct:=N,bk:=D.nx} σ2 H2)
def pinsAt (fp:List Addr) (h:Heap):List (Addr×Obj):=fp.filterMap fun b=>(h.get? b).map fun o=>(b,o)
theorem mem_pinsAt {fp:List Addr} {h:Heap} {b:Addr} {o:Obj} (hb:b∈fp) (e:h.get? b=some o):(b,o)∈pinsAt fp h:=List.mem_filterMap.mpr ⟨b,hb,by rw [e];rfl⟩
theorem of_pinsAt {fp:List Addr} {h:Heap} {p:Addr×Obj} (hp:p∈pinsAt fp h):p.1∈fp∧h.get? p.1=some p.2:=by
 obtain ⟨b,hb,e⟩:=List.mem_filterMap.mp hp
 cases q:h.get? b with
 | none=>rw [q] at e;cases e
 | some o=>
  rw [q] at e
  have e':(b,o)=p:=Option.some.inj e
  subst e'
  exact ⟨hb,q⟩
theorem Inv.pinned {pins:List (Addr×Obj)} {σ:St} {H:Hp} {s:Shared} {fp:List Addr} (I:Inv X pins σ H s) (hf:∀b∈fp,FpOk X pins H b) (ho:∀b∈fp,∃o,s.heap.get? b=some o∧∀v,o.data≠.cell v):Inv X (pins++pinsAt fp s.heap) σ H s:=
 I.pins_of fun p hp=>(List.mem_append.mp hp).elim (fun z=>I.pin p (List.mem_append_right _ z)) fun z=>by
  obtain ⟨hb,e⟩:=of_pinsAt z
  obtain ⟨f0,f1,f2,_⟩:=hf p.1 hb
  obtain ⟨o,e',d⟩:=ho p.1 hb
  rw [e] at e';cases e'
  exact ⟨e,f0,f1,f2,d⟩
theorem Inv.unpinned {pins pl:List (Addr×Obj)} {σ:St} {H:Hp} {s:Shared} (I:Inv X (pins++pl) σ H s):Inv X pins σ H s:=I.pins_of fun p hp=>I.pin p (List.mem_append_right _ (List.mem_append_left _ hp))
theorem ps_for {iter:Expr} {body:List Stmt} {wi:TI} {g:TG} {tb:TS} {pos:Pos} (hp:PassesOwn (model X.prog X.w) X.A X.env X.xe) (hc:X.calm=true) (hi:PI X tg iter wi) (hg:PG X tg g) (hb:PSs X body tb)
 (hs:∀x,foldedSetIterable iter X.env x=pure x:=by intro _;rfl):PS X (.For tg iter body [] pos) (tFor wi g tb):=by
 intro pins s σ H D I h
 refine wpAny_For (thn (hi pins s σ H _ I h) fun v s1 h1=>thn h1 fun itv s2 h2=>?_) hs
 obtain ⟨it,fp,tn,J,H2,e,I2,T,st2,f2,W,⟨m0,w0⟩,turn⟩:=h2
 subst e
 have stat:∀{H':Hp},(∀b∈fp,H' b=none)→∀b∈fp,FpOk X pins H' b:=fun hn b hb=>⟨hn b hb,(f2 b hb).2⟩
 refine codeAny_forLoop_any (fun n s'=>∃i σ' H',Inv X pins σ' H' s'∧tn i s'.heap∧(∀b∈fp,H' b=none)∧W i n σ' H') ?_ m0 ⟨0,σ,H2,I2,st2,fun b hb=>(f2 b hb).1,w0⟩
 rintro n s3 ⟨i,σ3,H3,I3,st3,fr3,w3⟩
 rcases turn i n σ3 H3 w3 with ⟨stop,qn⟩ | ⟨go,N,hN,step⟩
 ·refine wpAny_passesOwn hp (thn (T.done X rfl rfl rfl hc i pins s3 σ3 H3 X.xe I3 (stat fr3) st3 stop) fun r s4 ⟨hr,I4⟩=>?_)
  subst hr
  exact wpAny_execs_nil ⟨σ3,H3,I4,qn⟩
 ·refine wpAny_passesOwn hp (thn (T.item X rfl rfl rfl hc i pins s3 σ3 H3 X.xe I3 (stat fr3) st3 go) fun r s4 ⟨u,hr,h4⟩=>?_)
  subst hr
  refine wpAny_passesOwn hp (thn h4 fun _ s5 ⟨x,H5,I5,r5,y5,st5,fr5⟩=>?_)
  have I5':=I5.pinned (stat fr5) (T.obj _ _ st5)
  refine wpAny_passesOwn hp (thn (hg _ s5 σ3 H5 x u _ I5' r5 (step x H5 y5)) fun _ s6 ⟨σ6,H6,I6,q6⟩=>?_)
  refine wpAny_passesOwn hp (thn (hb _ s6 σ6 H6 _ I6 q6) fun f s7 q7=>?_)
  have again:∀{σ7:St} {H7:Hp},Inv X (pins++pinsAt fp s5.heap) σ7 H7 s7→N σ7 H7→∃m,m < n∧∃i σ' H',Inv X pins σ' H' s7∧tn i s7.heap∧(∀b∈fp,H' b=none)∧W i m σ' H':=fun {σ7 H7} I7 n7=>by
   obtain ⟨m',hm,w7⟩:=hN σ7 H7 n7
   refine ⟨m',hm,i + 1,σ7,H7,I7.unpinned,T.keep _ _ _ st5 fun b hb o e=>(I7.pin (b,o) (List.mem_append_right _ (List.mem_append_right _ (mem_pinsAt hb e)))).1,fun b hb=>?_,w7⟩
   obtain ⟨o,e,d⟩:=T.obj _ _ st5 b hb
   exact (I7.pin (b,o) (List.mem_append_right _ (List.mem_append_right _ (mem_pinsAt hb e)))).2.1
  cases f with
  | next=>obtain ⟨σ7,H7,I7,n7⟩:=q7;exact again I7 n7
  | cont=>obtain ⟨σ7,H7,I7,n7⟩:=q7;exact again I7 n7
  | brk=>obtain ⟨σ7,H7,I7,q7⟩:=q7;exact ⟨σ7,H7,I7.unpinned,q7⟩
  | ret v=>obtain ⟨x7,σ7,H7,I7,r7,q7⟩:=q7;exact ⟨x7,σ7,H7,I7.unpinned,r7,q7⟩
end
theorem for_list {K:PySem.W.Frag} {a:Addr} {xs:List V} {g:TG} {tb:TS} {D:Ends} {σ:St} {H:Hp} (Pv:Nat→St→Hp→Prop) (h0:Pv 0 σ H) (hl:∀i σ H,i≤xs.length→Pv i σ H→SqL K H a xs)
 (hs:∀i x σ H,xs[i]?=some x→Pv i σ H→g x σ H fun σ2 H2=>tb {D with nx:=Pv (i + 1),ct:=Pv (i + 1),bk:=D.nx} σ2 H2) (hd:∀σ H,Pv xs.length σ H→D.nx σ H):
 ∃W:Nat→Nat→St→Hp→Prop,(∃m,W 0 m σ H)∧∀i m σ H,W i m σ H→
  ((Itl K a).stop i H∧D.nx σ H)∨((Itl K a).go i H∧∃N:St→Hp→Prop,(∀σ' H',N σ' H'→∃m',m' < m∧W (i + 1) m' σ' H')∧∀x H',(Itl K a).yld i H x H'→g x σ H' fun σ2 H2=>tb {D with nx:=N,ct:=N,bk:=D.nx} σ2 H2):=by
 refine ⟨fun i m σ H=>m=xs.length - i∧i≤xs.length∧Pv i σ H,⟨xs.length,by simp,Nat.zero_le _,h0⟩,?_⟩
 rintro i m σ H ⟨rfl,hi,p⟩
 have q:=hl i σ H hi p
 by_cases hlt:i < xs.length
 ·refine .inr ⟨⟨xs,xs[i],q,by simp [hlt]⟩,Pv (i + 1),fun σ' H' p'=>⟨xs.length - (i + 1),by omega,rfl,hlt,p'⟩,fun x H' y=>?_⟩
  obtain ⟨e,y⟩:=y
  subst e
  exact hs i x σ _ (y xs q) p
 ·have e:i=xs.length:=by omega
  subst e
  exact .inl ⟨⟨xs,q,Nat.le_refl _⟩,hd σ H p⟩
theorem for_range {lo:Int} {n:Nat} {g:TG} {tb:TS} {D:Ends} {σ:St} {H:Hp} (Pv:Nat→St→Hp→Prop) (h0:Pv 0 σ H)
 (hs:∀i σ H,i < n→Pv i σ H→g (.int (lo + i)) σ H fun σ2 H2=>tb {D with nx:=Pv (i + 1),ct:=Pv (i + 1),bk:=D.nx} σ2 H2) (hd:∀σ H,Pv n σ H→D.nx σ H):
 ∃W:Nat→Nat→St→Hp→Prop,(∃m,W 0 m σ H)∧∀i m σ H,W i m σ H→
  ((Itr lo n).stop i H∧D.nx σ H)∨((Itr lo n).go i H∧∃N:St→Hp→Prop,(∀σ' H',N σ' H'→∃m',m' < m∧W (i + 1) m' σ' H')∧∀x H',(Itr lo n).yld i H x H'→g x σ H' fun σ2 H2=>tb {D with nx:=N,ct:=N,bk:=D.nx} σ2 H2):=by
 refine ⟨fun i m σ H=>m=n - i∧i≤n∧Pv i σ H,⟨n,by simp,Nat.zero_le _,h0⟩,?_⟩
 rintro i m σ H ⟨rfl,hi,p⟩
 by_cases hlt:i < n
 ·refine .inr ⟨hlt,Pv (i + 1),fun σ' H' p'=>⟨n - (i + 1),by omega,rfl,hlt,p'⟩,fun x H' y=>?_⟩
  obtain ⟨e,y⟩:=y
  subst e y
  exact hs i σ _ hlt p
 ·have e:i=n:=by omega
  subst e
  exact .inl ⟨Nat.le_refl _,hd σ H p⟩
end L2
namespace L2
open PySem PySem.Spec PyProof.Rows
abbrev R2:=V→V→Hp→VK→Prop
def OpR (X:Cx) (f:Value→Value→Sem Value) (r:R2):Prop:=
 ∀(pins:List (Addr×Obj)) (s:Shared) (σ:St) (H:Hp) (x y:V) (v u:Value) (Q:VK),Inv X pins σ H s→RelV x v→RelV y u→r x y H Q→
  wpAny (model X.prog X.w) X.A (f v u) (EP X pins σ Q) X.xe s
def UnR (X:Cx) (f:Value→Sem Value) (r:V→Hp→VK→Prop):Prop:=
 ∀(pins:List (Addr×Obj)) (s:Shared) (σ:St) (H:Hp) (x:V) (v:Value) (Q:VK),Inv X pins σ H s→RelV x v→r x H Q→
  wpAny (model X.prog X.w) X.A (f v) (EP X pins σ Q) X.xe s
def CallR (X:Cx) (f:Value) (r:List V→Hp→VK→Prop):Prop:=
 ∀(pins:List (Addr×Obj)) (s:Shared) (σ:St) (H:Hp) (xs:List V) (us:List Value) (Q:VK),Inv X pins σ H s→Vals xs us→r xs H Q→
  wpAny (model X.prog X.w) X.A (call f us) (EP X pins σ Q) X.xe s
def tOp (r:R2) (ta tb:TE):TE:=fun σ H Q=>ta σ H fun x H1=>tb σ H1 fun y H2=>r x y H2 Q
def tUn (r:V→Hp→VK→Prop) (ta:TE):TE:=fun σ H Q=>ta σ H fun x H1=>r x H1 Q
def rI (C:Int→Int→Prop) (g:Int→Int→V):R2:=fun x y H Q=>∃i j,x=.int i∧y=.int j∧C i j∧Q (g i j) H
def rI0 (g:Int→Int→V):R2:=fun x y H Q=>∃i j,x=.int i∧y=.int j∧Q (g i j) H
def rU (g:Int→V):V→Hp→VK→Prop:=fun x H Q=>∃i,x=.int i∧Q (g i) H
section
variable {X:Cx} {a b c:Expr} {ta tb tc:TE} {pos:Pos}
theorem binT (ha:PE X a ta) (hb:PE X b tb) {pins:List (Addr×Obj)} {s:Shared} {σ:St} {H:Hp} {R:V→V→Hp→Prop} (I:Inv X pins σ H s)
 (h:ta σ H fun x H1=>tb σ H1 fun y H2=>R x y H2) {Q:Value→Shared→Prop} {f:Value→Value→Sem Value}
 (hf:∀v u s2 x y H2,Inv X pins σ H2 s2→RelV x v→RelV y u→R x y H2→wpAny (model X.prog X.w) X.A (f v u) Q X.xe s2):
 wpAny (model X.prog X.w) X.A (eval a X.env) (fun v s₁=>wpAny (model X.prog X.w) X.A (eval b X.env) (fun u s₂=>wpAny (model X.prog X.w) X.A (f v u) Q X.xe s₂) X.xe s₁) X.xe s:=by
 refine thn (ha pins s σ H _ I h) fun v s1 ⟨x,H1,I1,r1,q1⟩=>?_
 refine thn (hb pins s1 σ H1 _ I1 q1) fun u s2 ⟨y,H2,I2,r2,q2⟩=>?_
 exact hf v u s2 x y H2 I2 r1 r2 q2
theorem pe_op {op:Operator} {r:R2} (ho:OpR X (binaryOp op) r) (ha:PE X a ta) (hb:PE X b tb):PE X (.BinOp a op b pos) (tOp r ta tb):=by
 intro pins s σ H Q I h
 exact wpAny_BinOp (binT ha hb I h fun v u s2 x y H2 I2 rx ry q=>ho pins s2 σ H2 x y v u Q I2 rx ry q)
theorem pe_un {op:UnaryOp} {r:V→Hp→VK→Prop} (ho:UnR X (unaryOp op) r) (ha:PE X a ta):PE X (.UnaryOp op a pos) (tUn r ta):=by
 intro pins s σ H Q I h
 exact UnaryOp_ (thn (ha pins s σ H _ I h) fun v s1 ⟨x,H1,I1,r1,q1⟩=>ho pins s1 σ H1 x v Q I1 r1 q1)
theorem opI {f:Value→Value→Sem Value} {C:Int→Int→Prop} {g:Int→Int→Int}
 (rule:∀(i j:Int) (t u:Tok) (s:Shared) (Q:Value→Shared→Prop) (E:Value→Shared→Prop),C i j→Q (.int (g i j) s.toks) {s with toks:=s.toks + 1}→wpAny (model X.prog X.w) X.A (f (.int i t) (.int j u)) Q E s):
 OpR X f (rI C fun i j=>.int (g i j)):=by
 intro pins s σ H x y v u Q I rx ry h
 obtain ⟨i,j,rfl,rfl,hc,q⟩:=h
 obtain ⟨t,rfl⟩:=rx
 obtain ⟨t',rfl⟩:=ry
 exact rule i j t t' s _ _ hc ⟨.int (g i j),H,I.tok _,⟨_,rfl⟩,q⟩
theorem opI0 {f:Value→Value→Sem Value} {g:Int→Int→Int}
 (rule:∀(i j:Int) (t u:Tok) (s:Shared) (Q:Value→Shared→Prop) (E:Value→Shared→Prop),Q (.int (g i j) s.toks) {s with toks:=s.toks + 1}→wpAny (model X.prog X.w) X.A (f (.int i t) (.int j u)) Q E s):
 OpR X f (rI0 fun i j=>.int (g i j)):=by
 intro pins s σ H x y v u Q I rx ry h
 obtain ⟨i,j,rfl,rfl,q⟩:=h
 obtain ⟨t,rfl⟩:=rx
 obtain ⟨t',rfl⟩:=ry
 exact rule i j t t' s _ _ ⟨.int (g i j),H,I.tok _,⟨_,rfl⟩,q⟩
theorem opB0 {f:Value→Value→Sem Value} {g:Int→Int→Bool}
 (rule:∀(i j:Int) (t u:Tok) (s:Shared) (Q:Value→Shared→Prop) (E:Value→Shared→Prop),Q (.bool (g i j)) s→wpAny (model X.prog X.w) X.A (f (.int i t) (.int j u)) Q E s):
 OpR X f (rI0 fun i j=>.bl (g i j)):=by
 intro pins s σ H x y v u Q I rx ry h
 obtain ⟨i,j,rfl,rfl,q⟩:=h
 obtain ⟨t,rfl⟩:=rx
 obtain ⟨t',rfl⟩:=ry
 exact rule i j t t' s _ _ ⟨.bl (g i j),H,I,rfl,q⟩
def CDiv (i j:Int):Prop:=0 < j∧j < 1073741824
def CMul (i j:Int):Prop:=(-(2 ^ 64) < i∧i < 2 ^ 64)∨(-(2 ^ 64) < j∧j < 2 ^ 64)
theorem CMul.ok {i j:Int} (h:CMul i j):IntMulOk i j:=by
 rcases h with ⟨h1,h2⟩ | ⟨h1,h2⟩
 ·exact .of_left (intBits_le_64 h1 h2)
 ·exact .of_right (intBits_le_64 h1 h2)
theorem op_add:OpR X (binaryOp .Add) (rI0 fun i j=>.int (i + j)):=opI0 fun _ _ _ _ _ _ _ q=>add_int q
theorem op_sub:OpR X (binaryOp .Sub) (rI0 fun i j=>.int (i - j)):=opI0 fun _ _ _ _ _ _ _ q=>sub_int q
theorem op_mul:OpR X (binaryOp .Mult) (rI CMul fun i j=>.int (i * j)):=opI fun _ _ _ _ _ _ _ hc q=>mul_int q hc.ok
theorem op_fdiv:OpR X (binaryOp .FloorDiv) (rI CDiv fun i j=>.int (i / j)):=opI fun i j _ _ _ _ _ hc q=>by
 have h1:(0:Int) < j:=hc.1
 have h2:j < 1073741824:=hc.2
 exact floordiv_int (by omega) (by rw [Int.fdiv_eq_ediv_of_nonneg i (by omega)];exact q) (.inl (PyProof.noPylong_small (by omega)))
theorem op_mod:OpR X (binaryOp .Mod) (rI (fun _ j=>0 < j) fun i j=>.int (i % j)):=opI fun i j _ _ _ _ _ hc q=>by
 have h1:(0:Int) < j:=hc
 exact mod_int' (by omega) (by rw [Int.fmod_eq_emod_of_nonneg i (by omega)];exact q)
theorem iop_add:OpR X (inplaceOp .Add) (rI0 fun i j=>.int (i + j)):=opI0 fun _ _ _ _ _ _ _ q=>iadd_int q
theorem unI {f:Value→Sem Value} {g:Int→Int}
 (rule:∀(i:Int) (t:Tok) (s:Shared) (Q:Value→Shared→Prop) (E:Value→Shared→Prop),Q (.int (g i) s.toks) {s with toks:=s.toks + 1}→wpAny (model X.prog X.w) X.A (f (.int i t)) Q E s):
 UnR X f (rU fun i=>.int (g i)):=by
 intro pins s σ H x v Q I rx h
 obtain ⟨i,rfl,q⟩:=h
 obtain ⟨t,rfl⟩:=rx
 exact rule i t s _ _ ⟨.int (g i),H,I.tok _,⟨_,rfl⟩,q⟩
theorem un_neg:UnR X (unaryOp .USub) (rU fun i=>.int (-i)):=unI fun _ _ _ _ _ q=>neg_int q
end
def scal:V→V→Bool
 | .non,.non=>true | .non,.int _=>true | .int _,.non=>true | .non,.bl _=>true | .bl _,.non=>true | .non,.str _=>true | .str _,.non=>true
 | .int _,.int _=>true | .bl _,.bl _=>true | .str _,.str _=>true | .byt _,.byt _=>true
 | .int _,.str _=>true | .str _,.int _=>true | .bl _,.str _=>true | .str _,.bl _=>true
 | _,_=>false
def rEq:R2:=fun x y H Q=>scal x y=true∧Q (.bl (decide (x=y))) H
def rNe:R2:=fun x y H Q=>scal x y=true∧Q (.bl (!decide (x=y))) H
theorem dec_int {i j:Int}:decide (V.int i=V.int j)=(i==j):=by
 rw [Bool.eq_iff_iff]
 simp
theorem dec_bl {i j:Bool}:decide (V.bl i=V.bl j)=(i==j):=by
 rw [Bool.eq_iff_iff]
 simp
theorem dec_str {i j:Str}:decide (V.str i=V.str j)=(i==j):=by
 rw [Bool.eq_iff_iff]
 simp
theorem dec_byt {i j:Array UInt8}:decide (V.byt i=V.byt j)=(i.toList==j.toList):=by
 rw [Bool.eq_iff_iff]
 cases i
 cases j
 simp
section
variable {X:Cx} {a b c:Expr} {ta tb tc:TE} {pos:Pos}
theorem fin_bl {pins:List (Addr×Obj)} {σ:St} {H:Hp} {s:Shared} {Q:VK} {k k':Bool} (I:Inv X pins σ H s) (q:Q (.bl k) H) (e:k=k'):EP X pins σ Q (.bool k') s:=by
 subst e
 exact ⟨.bl k,H,I,rfl,q⟩
theorem op_eq:OpR X (compareOp .Eq) rEq:=by
 intro pins s σ H x y v u Q I rx ry h
 obtain ⟨hs,q⟩:=h
 cases x with
 | non=>
  cases rx
  cases y with
  | non=>cases ry;exact PySem.EqNone.eq_none_none (fin_bl I q (by simp))
  | bl j=>cases ry;exact PySem.EqNone.eq_none_bool (fin_bl I q (by simp))
  | int j=>obtain ⟨t',rfl⟩:=ry;exact PySem.EqNone.eq_none_int (fin_bl I q (by simp))
  | str j=>obtain ⟨t',rfl⟩:=ry;exact PySem.EqNone.eq_none_str (fin_bl I q (by simp))
  | _=>exact absurd (show false=true from hs) Bool.false_ne_true
 | bl i=>
  cases rx
  cases y with
  | non=>cases ry;exact PySem.EqNone.eq_bool_none (fin_bl I q (by simp))
  | bl j=>cases ry;exact eq_bool (fin_bl I q dec_bl)
  | str j=>obtain ⟨t',rfl⟩:=ry;exact PySem.EqMixed.eq_bool_str (fin_bl I q (by simp))
  | _=>exact absurd (show false=true from hs) Bool.false_ne_true
 | int i=>
  obtain ⟨t,rfl⟩:=rx
  cases y with
  | non=>cases ry;exact PySem.EqNone.eq_int_none (fin_bl I q (by simp))
  | int j=>obtain ⟨t',rfl⟩:=ry;exact eq_int (fin_bl I q dec_int)
  | str j=>obtain ⟨t',rfl⟩:=ry;exact PySem.EqMixed.eq_int_str (fin_bl I q (by simp))
  | _=>exact absurd (show false=true from hs) Bool.false_ne_true
 | str i=>
  obtain ⟨t,rfl⟩:=rx
  cases y with
  | non=>cases ry;exact PySem.EqNone.eq_str_none (fin_bl I q (by simp))
  | bl j=>cases ry;exact PySem.EqMixed.eq_str_bool (fin_bl I q (by simp))
  | int j=>obtain ⟨t',rfl⟩:=ry;exact PySem.EqMixed.eq_str_int (fin_bl I q (by simp))
  | str j=>obtain ⟨t',rfl⟩:=ry;exact eq_str (fin_bl I q dec_str)
  | _=>exact absurd (show false=true from hs) Bool.false_ne_true
 | byt i=>
  obtain ⟨t,rfl⟩:=rx
  cases y with
  | byt j=>obtain ⟨t',rfl⟩:=ry;exact PySem.W.eq_bytes (fin_bl I q dec_byt)
  | _=>exact absurd (show false=true from hs) Bool.false_ne_true
 | _=>cases y<;>exact absurd (show false=true from hs) Bool.false_ne_true
theorem op_ne:OpR X (compareOp .NotEq) rNe:=by
 intro pins s σ H x y v u Q I rx ry h
 obtain ⟨hs,q⟩:=h
 cases x with
 | non=>
  cases rx
  cases y with
  | non=>cases ry;exact PySem.EqNone.ne_none_none (fin_bl I q (by simp))
  | bl j=>cases ry;exact PySem.EqNone.ne_none_bool (fin_bl I q (by simp))
  | int j=>obtain ⟨t',rfl⟩:=ry;exact PySem.EqNone.ne_none_int (fin_bl I q (by simp))
  | str j=>obtain ⟨t',rfl⟩:=ry;exact PySem.EqNone.ne_none_str (fin_bl I q (by simp))
  | _=>exact absurd (show false=true from hs) Bool.false_ne_true
 | bl i=>
  cases rx
  cases y with
  | non=>cases ry;exact PySem.EqNone.ne_bool_none (fin_bl I q (by simp))
  | bl j=>cases ry;exact ne_bool (fin_bl I q (congrArg not dec_bl))
  | str j=>obtain ⟨t',rfl⟩:=ry;exact PySem.EqMixed.ne_bool_str (fin_bl I q (by simp))
  | _=>exact absurd (show false=true from hs) Bool.false_ne_true
 | int i=>
  obtain ⟨t,rfl⟩:=rx
  cases y with
  | non=>cases ry;exact PySem.EqNone.ne_int_none (fin_bl I q (by simp))
  | int j=>obtain ⟨t',rfl⟩:=ry;exact ne_int (fin_bl I q (congrArg not dec_int))
  | str j=>obtain ⟨t',rfl⟩:=ry;exact PySem.EqMixed.ne_int_str (fin_bl I q (by simp))
  | _=>exact absurd (show false=true from hs) Bool.false_ne_true
 | str i=>
  obtain ⟨t,rfl⟩:=rx
  cases y with
  | non=>cases ry;exact PySem.EqNone.ne_str_none (fin_bl I q (by simp))
  | bl j=>cases ry;exact PySem.EqMixed.ne_str_bool (fin_bl I q (by simp))
  | int j=>obtain ⟨t',rfl⟩:=ry;exact PySem.EqMixed.ne_str_int (fin_bl I q (by simp))
  | str j=>obtain ⟨t',rfl⟩:=ry;exact ne_str (fin_bl I q (congrArg not dec_str))
  | _=>exact absurd (show false=true from hs) Bool.false_ne_true
 | byt i=>
  obtain ⟨t,rfl⟩:=rx
  cases y with
  | byt j=>obtain ⟨t',rfl⟩:=ry;exact PySem.W.ne_bytes (fin_bl I q (congrArg not dec_byt))
  | _=>exact absurd (show false=true from hs) Bool.false_ne_true
 | _=>cases y<;>exact absurd (show false=true from hs) Bool.false_ne_true
theorem op_lt:OpR X (compareOp .Lt) (rI0 fun i j=>.bl (decide (i < j))):=opB0 fun _ _ _ _ _ _ _ q=>lt_int q
theorem op_le:OpR X (compareOp .LtE) (rI0 fun i j=>.bl (decide (i≤j))):=opB0 fun _ _ _ _ _ _ _ q=>le_int q
theorem op_gt:OpR X (compareOp .Gt) (rI0 fun i j=>.bl (decide (j < i))):=opB0 fun _ _ _ _ _ _ _ q=>gt_int q
theorem op_ge:OpR X (compareOp .GtE) (rI0 fun i j=>.bl (decide (j≤i))):=opB0 fun _ _ _ _ _ _ _ q=>ge_int q
theorem op_isN:OpR X (compareOp .Is) (fun x y H Q=>y=.non∧Q (.bl (decide (x=.non))) H):=by
 intro pins s σ H x y v u Q I rx ry h
 obtain ⟨rfl,q⟩:=h
 cases ry
 refine is_none_gen (fin_bl I q ?_)
 cases x<;>first
  | (cases rx;rfl)
  | (obtain ⟨t,rfl⟩:=rx;rfl)
theorem op_notN:OpR X (compareOp .IsNot) (fun x y H Q=>y=.non∧Q (.bl (!decide (x=.non))) H):=by
 intro pins s σ H x y v u Q I rx ry h
 obtain ⟨rfl,q⟩:=h
 cases ry
 refine isnot_none_gen (fin_bl I q ?_)
 cases x<;>first
  | (cases rx;rfl)
  | (obtain ⟨t,rfl⟩:=rx;rfl)
theorem nomark (b:Expr) {op:CmpOp} (h:op≠.In:=by decide) (h2:op≠.NotIn:=by decide):behindInMarks op b=false:=by
 have e1:(op==CmpOp.In)=false:=by cases op<;>first | rfl | exact absurd rfl h
 have e2:(op==CmpOp.NotIn)=false:=by cases op<;>first | rfl | exact absurd rfl h2
 cases b<;>simp [behindInMarks,e1,e2]
theorem pe_cmpR {op:CmpOp} {r:R2} (ho:OpR X (compareOp op) r) (ha:PE X a ta) (hb:PE X b tb) (hm:behindInMarks op b=false):PE X (.Compare a [op] [b] pos) (tOp r ta tb):=by
 intro pins s σ H Q I h
 exact wpAny_Compare1 (binT ha hb I h fun v u s2 x y H2 I2 rx ry q=>ho pins s2 σ H2 x y v u Q I2 rx ry q) hm
def tTest (t:TE):TT:=fun σ H Q=>t σ H fun x H'=>∃k,x=.bl k∧Q k H'
theorem pt_cmpR {op:CmpOp} {r:R2} (ho:OpR X (compareOp op) r) (ha:PE X a ta) (hb:PE X b tb) (hm:behindInMarks op b=false):PT X (.Compare a [op] [b] pos) (tTest (tOp r ta tb)):=by
 intro pins s σ H Q I h
 refine wpAny_isTrue_Compare1 (thn (ha pins s σ H _ I h) fun v s1 ⟨x,H1,I1,r1,q1⟩=>thn (hb pins s1 σ H1 _ I1 q1) fun u s2 ⟨y,H2,I2,r2,q2⟩=>
  thn (ho pins s2 σ H2 x y v u _ I2 r1 r2 q2) fun c s3 ⟨z,H3,I3,r3,k,e,q3⟩=>?_) hm
 subst e
 cases r3
 exact wpAny_truthy_bool ⟨H3,I3,q3⟩
def tChain (r r':R2) (ta tb tc:TE):TE:=fun σ H Q=>ta σ H fun x H1=>tb σ H1 fun y H2=>r x y H2 fun z H3=>∃k,z=.bl k∧
 (if k=true then tc σ H3 fun w' H4=>r' y w' H4 Q else Q (.bl false) H3)
theorem pe_chain {op op':CmpOp} {r r':R2} (ho:OpR X (compareOp op) r) (ho':OpR X (compareOp op') r') (ha:PE X a ta) (hb:PE X b tb) (hc:PE X c tc)
 (hm:lastMarks [op,op'] [b,c]=false:=by with_unfolding_all rfl):PE X (.Compare a [op,op'] [b,c] pos) (tChain r r' ta tb tc):=by
 intro pins s σ H Q I h
 refine Compare_chain (thn (ha pins s σ H _ I h) fun v s1 ⟨x,H1,I1,r1,q1⟩=>chain_link (thn (hb pins s1 σ H1 _ I1 q1) fun u s2 ⟨y,H2,I2,r2,q2⟩=>
  thn (ho pins s2 σ H2 x y v u _ I2 r1 r2 q2) fun d s3 ⟨z,H3,I3,r3,k,e,q3⟩=>?_)) hm
 subst e
 cases r3
 refine wpAny_truthy_bool ?_
 cases k with
 | false=>exact ite_ff ⟨.bl false,H3,I3,rfl,q3⟩
 | true=>exact ite_tt (chain_last (thn (hc pins s3 σ H3 _ I3 q3) fun w' s4 ⟨z',H4,I4,r4,q4⟩=>ho' pins s4 σ H4 y z' u w' Q I4 r2 r4 q4))
theorem pt_chain {op op':CmpOp} {r r':R2} (ho:OpR X (compareOp op) r) (ho':OpR X (compareOp op') r') (ha:PE X a ta) (hb:PE X b tb) (hc:PE X c tc)
 (hm:lastMarks [op,op'] [b,c]=false:=by with_unfolding_all rfl):PT X (.Compare a [op,op'] [b,c] pos) (tTest (tChain r r' ta tb tc)):=by
 intro pins s σ H Q I h
 refine isTrue_chain (thn (ha pins s σ H _ I h) fun v s1 ⟨x,H1,I1,r1,q1⟩=>test_link (thn (hb pins s1 σ H1 _ I1 q1) fun u s2 ⟨y,H2,I2,r2,q2⟩=>
  thn (ho pins s2 σ H2 x y v u _ I2 r1 r2 q2) fun d s3 ⟨z,H3,I3,r3,k,e,q3⟩=>?_)) hm
 subst e
 cases r3
 refine wpAny_truthy_bool ?_
 cases k with
 | false=>
  obtain ⟨k',e',q'⟩:=q3
  cases e'
  exact ite_ff ⟨H3,I3,q'⟩
 | true=>
  refine ite_tt (test_last (thn (hc pins s3 σ H3 _ I3 q3) fun w' s4 ⟨z',H4,I4,r4,q4⟩=>thn (ho' pins s4 σ H4 y z' u w' _ I4 r2 r4 q4) fun d' s5 ⟨z2,H5,I5,r5,k2,e2,q5⟩=>?_))
  subst e2
  cases r5
  exact wpAny_truthy_bool ⟨H5,I5,q5⟩
theorem line63:(sizeLine:Nat) < 2 ^ 63:=by rw [sizeLine_eq];decide
theorem op_add_str:OpR X (binaryOp .Add) (fun x y H Q=>∃i j,x=.str i∧y=.str j∧i.length + j.length≤sizeLine∧Q (.str (i++j)) H):=by
 intro pins s σ H x y v u Q I rx ry h
 obtain ⟨i,j,rfl,rfl,hz,q⟩:=h
 obtain ⟨t,rfl⟩:=rx
 obtain ⟨t',rfl⟩:=ry
 exact add_str (fun t' tk=>⟨.str (i++j),H,I.tok _,⟨_,rfl⟩,q⟩) hz
theorem vals1 {x:V} {us:List Value} (r:Vals [x] us):∃u,us=[u]∧RelV x u:=by
 cases r with
 | cons r1 r2=>cases r2;exact ⟨_,rfl,r1⟩
theorem vals2 {x y:V} {us:List Value} (r:Vals [x,y] us):∃u w',us=[u,w']∧RelV x u∧RelV y w':=by
 cases r with
 | cons r1 r2=>
  cases r2 with
  | cons r3 r4=>cases r4;exact ⟨_,_,rfl,r1,r3⟩
theorem call_abs:CallR X (.builtin "abs") (fun xs H Q=>∃i,xs=[.int i]∧Q (.int (if i < 0 then -i else i)) H):=by
 intro pins s σ H xs us Q I r h
 obtain ⟨i,rfl,q⟩:=h
 obtain ⟨u,rfl,t,rfl⟩:=vals1 r
 exact call_abs_int fun u tk=>⟨.int (if i < 0 then -i else i),H,I.tok _,⟨_,rfl⟩,q⟩
theorem call_max2 (hc:X.calm=true):CallR X (.builtin "max") (fun xs H Q=>∃i j,xs=[.int i,.int j]∧Q (.int (if j > i then j else i)) H):=by
 intro pins s σ H xs us Q I r h
 obtain ⟨i,j,rfl,q⟩:=h
 obtain ⟨u,w',rfl,⟨t,rfl⟩,⟨t',rfl⟩⟩:=vals2 r
 refine max_two_ints (I.ok.hd hc) fun h' tk k=>⟨_,H,I.kept k,?_,q⟩
 by_cases hj:j > i
 ·rw [if_pos hj,if_pos hj];exact ⟨_,rfl⟩
 ·rw [if_neg hj,if_neg hj];exact ⟨_,rfl⟩
theorem call_min2 (hc:X.calm=true):CallR X (.builtin "min") (fun xs H Q=>∃i j,xs=[.int i,.int j]∧Q (.int (if j < i then j else i)) H):=by
 intro pins s σ H xs us Q I r h
 obtain ⟨i,j,rfl,q⟩:=h
 obtain ⟨u,w',rfl,⟨t,rfl⟩,⟨t',rfl⟩⟩:=vals2 r
 refine min_two_ints (I.ok.hd hc) fun h' tk k=>⟨_,H,I.kept k,?_,q⟩
 by_cases hj:j < i
 ·rw [if_pos hj,if_pos hj];exact ⟨_,rfl⟩
 ·rw [if_neg hj,if_neg hj];exact ⟨_,rfl⟩
end
end L2
namespace L2
open PySem PySem.Spec PyProof.Rows
structure ObjM (h:Heap) (x dx C:Addr) (mA:Str→Option Value):Prop where
 obj:h.get? x=some (PySem.W.instObj C dx)
 ns:h.Ns1 dx mA
 ne:dx≠x
theorem lookIn_ns {h:Heap} {dx:Addr} {mA:Str→Option Value} (n:h.Ns1 dx mA):∃od,h.get? dx=some od∧∀name,PySem.W.lookIn name od=some (mA name):=by
 obtain ⟨o,es,ep,ho,hd,hk,_,hm⟩:=n
 refine ⟨o,ho,fun name=>?_⟩
 have e:=hm name
 unfold nsFind findBy at e
 rw [←Array.find?_toList] at e
 unfold PySem.W.lookIn
 rw [hd]
 dsimp only
 split
 ·rename_i y q
  rw [q] at e
  exact congrArg some e
 ·rename_i q
  rw [q] at e
  have a:es.toList.any (·.refKey)=false:=by
   rw [List.any_eq_false]
   intro y hy
   obtain ⟨z,t,hkey⟩:=hk y (Array.mem_toList_iff.mp hy)
   simp [DictEntry.refKey,hkey]
  have a':¬es.toList.any (·.refKey)=true:=by rw [a];exact Bool.false_ne_true
  rw [if_neg a']
  exact congrArg some e
theorem ObjM.look {h:Heap} {x dx C:Addr} {mA:Str→Option Value} (I:ObjM h x dx C mA):∃od,PySem.W.InstAt h x (PySem.W.instObj C dx) C (some od)∧∀name,PySem.W.lookIn name od=some (mA name):=
 let ⟨od,ho,hl⟩:=lookIn_ns I.ns
 ⟨od,⟨I.obj,rfl,rfl,ho⟩,hl⟩
section
variable {prog:Program} {w:World} {A:Around} {E:Value→Shared→Prop} {s:Shared} {K:PySem.W.Frag} {x dx C f:Addr} {mA:Str→Option Value} {name:Str} {v:Value}
theorem get_map {expr:Bool} {Q:Value→Shared→Prop} (X:K.In s.heap) (I:ObjM s.heap x dx C mA) (hg:PySem.W.plainGet K C name=true) (hh:PySem.W.hasDictIn K C=true)
 (ha:PySem.W.findIn K (.ref C) name=some none) (hv:mA name=some v) (hv':PySem.W.handedIn v=true) (h:Q v {s with toks:=s.toks + 1}):
 wpAny (model prog w) A (getAttr (.ref x) name expr) Q E s:=by
 obtain ⟨od,J,hl⟩:=I.look
 exact PySem.W.get_value X J (PySem.W.plainGet_of hg).1 (PySem.W.findObj_own hh ha rfl (by rw [hl,hv])) hv' h
theorem get_meth {pl:Sem Bool} {Q:Value×List Value→Shared→Prop} (X:K.In s.heap) (I:ObjM s.heap x dx C mA) (hg:PySem.W.plainGet K C name=true)
 (hf:PySem.W.findIn K (.ref C) name=some (some (.ref f))) (ht:PySem.W.isFn K (.ref f)=true) (hv:mA name=none) (h:Q (.ref f,[.ref x]) s):
 wpAny (model prog w) A (getMethod (.ref x) name pl) Q E s:=by
 obtain ⟨od,J,hl⟩:=I.look
 exact PySem.W.method_fn X J (PySem.W.plainGet_of hg).1 (PySem.W.plainGet_of hg).2 hf (beq_iff_eq.mp ht) (by show (PySem.W.lookIn name od).map (·.isSome)=some false;rw [hl,hv];rfl) h
theorem set_map {ns:List Str} {Q:Unit→Shared→Prop} (X:K.In s.heap) (I:ObjM s.heap x dx C mA)
 (hs:PySem.W.findIn K (.ref C) "__setattr__"=some (some (.builtin "object.__setattr__"))) (hp:PySem.W.plainOver K C=true) (ht:PySem.W.takerIn K C name=some none) (hh:PySem.W.hasDictIn K C=true)
 (hw:PySem.Within mA ns) (hsz:ns.length≤sizeLine)
 (h:∀h',ObjM h' x dx C (fun y=>if y=name then some v else mA y)→Heap.SameBut dx s.heap h'→Q () {s with heap:=h',toks:=s.toks + 2}):
 wpAny (model prog w) A (setAttr (.ref x) name v) Q E s:=by
 obtain ⟨od,J,hl⟩:=I.look
 refine PySem.W.set_plain X J hs (PySem.W.osa_open (s:={s with toks:=s.toks + 1}) (r:=none) X J hp ht fun b=>?_)
 obtain ⟨cd,hc,hd'⟩:=PySem.W.any_some hh
 have hx:s.heap.get? x=some ⟨.ref C,some dx,.plain,#[]⟩:=I.obj
 refine wpAny_bind (wpAny_pure (wpAny_bind (wpAny_bind (wpAny_loadPart hx (wpAny_bind (PySem.W.Looks.here (s:={s with toks:=s.toks + 1}) (PySem.W.looks_clsIn X hc) ?_))))))
 rw [hd']
 refine wpAny_pure (a:=some dx) (wpAny_bind (wpAny_pure (wpAny_bind ?_)))
 refine wpAny_nsSet1 (s:={s with toks:=s.toks + 1}) I.ns fun h' hn2 hs2=>?_
 obtain ⟨oD,esD,epD,hoD,hdD,hcD⟩:=hn2.count (PySem.Within.cons name v hw)
 refine wpAny_bind (wpAny_lookBehind hoD (by rw [hdD];exact pastItsLine_dict (Nat.le_trans hcD (by rw [List.length_cons];omega))) ?_)
 exact wpAny_pure (h _ ⟨(hs2.2 _ (Ne.symm I.ne)).trans I.obj,hn2,I.ne⟩ hs2)
theorem make_map {R:Result→Shared→Prop} {vs:List Value} {kw:List (Str×Value)} (X:K.In s.heap) (hm:PySem.W.makesIn K C=true)
 (hi:PySem.W.findIn K (.ref C) "__init__"=some (some (.ref f))) (hf:PySem.W.typeIn K (.ref f)=some (.type "function"))
 (h:codeAny (model prog w) (A.under (.builtin "type.__call__" ⟨.ref C::vs,kw⟩)) (.call (.ref f) ⟨.ref (s.heap.objs.size + 1)::vs,kw⟩) (PySem.W.InitBack (s.heap.objs.size + 1) R)
  {s with heap:=(s.heap.push PySem.W.emptyDict).push (PySem.W.instObj C s.heap.objs.size)}):
 codeAny (model prog w) A (.call (.ref C) ⟨vs,kw⟩) R s:=by
 obtain ⟨hh,g,d,t,os⟩:=s
 exact PySem.W.make_core (PySem.W.makes_of X hm) (PySem.W.looks_findIn X hi) (fun self=>PySem.W.bind_fn X self hf) (.inl rfl) h
end
def putF (f:Str) (v:V):List (Str×V)→List (Str×V)
 | []=>[(f,v)]
 | (g,x)::r=>if g=f then (g,v)::r else (g,x)::putF f v r
theorem lookup_putF (f g:Str) (v:V):∀fs:List (Str×V),(putF f v fs).lookup g=if g=f then some v else fs.lookup g
 | []=>by
  show List.lookup g [(f,v)]=_
  by_cases h:g=f
  ·have hb:(g==f)=true:=beq_iff_eq.mpr h
   simp only [List.lookup,hb,if_pos h]
  ·have hb:(g==f)=false:=beq_eq_false_iff_ne.mpr h
   simp only [List.lookup,hb,if_neg h]
 | (k,x)::r=>by
  have ih:=lookup_putF f g v r
  rw [show putF f v ((k,x)::r)=(if k=f then (k,v)::r else (k,x)::putF f v r) from rfl]
  by_cases hk:k=f
  ·rw [if_pos hk]
   by_cases h:g=k
   ·have hb:(g==k)=true:=beq_iff_eq.mpr h
    simp only [List.lookup,hb,if_pos (h.trans hk)]
   ·have hb:(g==k)=false:=beq_eq_false_iff_ne.mpr h
    simp only [List.lookup,hb,if_neg (fun e:g=f=>h (e.trans hk.symm))]
  ·rw [if_neg hk]
   by_cases h:g=k
   ·have hb:(g==k)=true:=beq_iff_eq.mpr h
    simp only [List.lookup,hb,if_neg (fun e:g=f=>hk (h.symm.trans e))]
   ·have hb:(g==k)=false:=beq_eq_false_iff_ne.mpr h
    simp only [List.lookup,hb]
    exact ih
theorem keys_putF (f:Str) (v:V):∀fs:List (Str×V),f∈(putF f v fs).map (·.1)∧∀g,g∈fs.map (·.1)→g∈(putF f v fs).map (·.1)
 | []=>⟨by simp [putF],fun g h=>by simp at h⟩
 | (k,x)::r=>by
  obtain ⟨i1,i2⟩:=keys_putF f v r
  rw [show putF f v ((k,x)::r)=(if k=f then (k,v)::r else (k,x)::putF f v r) from rfl]
  by_cases hk:k=f
  ·rw [if_pos hk]
   subst hk
   exact ⟨by simp,fun g h=>by simpa using h⟩
  ·rw [if_neg hk]
   refine ⟨?_,fun g h=>?_⟩
   ·rw [List.map_cons]
    exact List.mem_cons_of_mem _ i1
   ·rw [List.map_cons] at h ⊢
    rcases List.mem_cons.mp h with e | e
    ·exact List.mem_cons.mpr (.inl e)
    ·exact List.mem_cons_of_mem _ (i2 g e)
theorem length_putF (f:Str) (v:V):∀fs:List (Str×V),(putF f v fs).length≤fs.length + 1
 | []=>by simp [putF]
 | (k,x)::r=>by
  have ih:=length_putF f v r
  rw [show putF f v ((k,x)::r)=(if k=f then (k,v)::r else (k,x)::putF f v r) from rfl]
  by_cases hk:k=f
  ·rw [if_pos hk,List.length_cons,List.length_cons];omega
  ·rw [if_neg hk,List.length_cons,List.length_cons];omega
theorem RelO.some_of {v:V} {o:Option Value} (r:RelO (some v) o):∃u,o=some u∧RelV v u:=by
 cases o with
 | none=>exact (show False from r).elim
 | some u=>exact ⟨u,rfl,r⟩
theorem RelO.none_of {o:Option Value} (r:RelO none o):o=none:=by
 cases o with
 | none=>rfl
 | some u=>exact (show False from r).elim
theorem handed_of {v:V} {u:Value} (r:RelV v u):PySem.W.handedIn u=true:=by
 cases v with
 | non=>cases (show u=Value.none from r);rfl
 | bl b=>cases (show u=Value.bool b from r);rfl
 | int i=>obtain ⟨t,e⟩:=(show ∃t,u=Value.int i t from r);cases e;rfl
 | str x=>obtain ⟨t,e⟩:=(show ∃t,u=Value.str x t from r);cases e;rfl
 | byt b=>obtain ⟨t,e⟩:=(show ∃t,u=Value.bytes b t from r);cases e;rfl
 | flt b=>obtain ⟨t,e⟩:=(show ∃t,u=Value.float b t from r);cases e;rfl
 | ref a=>cases (show u=Value.ref a from r);rfl
 | ty n=>cases (show u=Value.type n from r);rfl
section
variable {P:Program} {w:World} {H H':Hp} {h h':Heap} {a C dx:Addr} {fs fs':List (Str×V)}
theorem ins_get (hok:HOk P w H h) (e:H a=some (.ins C dx fs)):∃mA,ObjM h a dx C mA∧(∀f,RelO (fs.lookup f) (mA f))∧PySem.Within mA (fs.map (·.1))∧fs.length≤1000∧H dx=some (.own a):=by
 obtain ⟨d,z,ne,ob,mA,n,r,q⟩:=(show ObjOk P w H h a (.ins C dx fs) from hok a _ e)
 exact ⟨mA,⟨ob,n,ne⟩,r,q,z,d⟩
end
structure Cls (K:PySem.W.Frag) (C:Addr):Prop where
 pg:PySem.W.plainGet K C Str.empty=true
 hd:PySem.W.hasDictIn K C=true
 po:PySem.W.plainOver K C=true
 sa:PySem.W.findIn K (.ref C) "__setattr__"=some (some (.builtin "object.__setattr__"))
theorem Cls.get {K:PySem.W.Frag} {C:Addr} (c:Cls K C) (f:Str):PySem.W.plainGet K C f=true:=c.pg
def NoAttr (K:PySem.W.Frag) (C:Addr) (f:Str):Prop:=PySem.W.findIn K (.ref C) f=some none
theorem NoAttr.taker {K:PySem.W.Frag} {C:Addr} {f:Str} (n:NoAttr K C f):PySem.W.takerIn K C f=some none:=by
 unfold PySem.W.takerIn
 rw [show PySem.W.findIn K (.ref C) f=some none from n]
 rfl
structure Meth (K:PySem.W.Frag) (C:Addr) (m:Str) (f:Addr):Prop where
 at_:PySem.W.findIn K (.ref C) m=some (some (.ref f))
 fn:PySem.W.isFn K (.ref f)=true
 kp:PySem.W.keepIn K (.ref f)=true
section
variable {X:Cx} {pins:List (Addr×Obj)} {σ:St} {H:Hp} {s:Shared} {a C dx:Addr} {fs:List (Str×V)} {f:Str} {v:V} {A:Around} {E:Value→Shared→Prop}
theorem getattr_ok {b:Bool} {Q:Value→Shared→Prop} (I:Inv X pins σ H s) (e:H a=some (.ins C dx fs)) (c:Cls X.K C) (n:NoAttr X.K C f) (l:fs.lookup f=some v)
 (h:∀u s',Inv X pins σ H s'→RelV v u→Q u s'):wpAny (model X.prog X.w) A (getAttr (.ref a) f b) Q E s:=by
 obtain ⟨mA,O,r,_,_,_⟩:=ins_get I.hok e
 obtain ⟨u,hu,ru⟩:=RelO.some_of (v:=v) (o:=mA f) (by rw [←l];exact r f)
 exact get_map I.kIn O (c.get f) c.hd n hu (handed_of ru) (h u _ (I.tok _) ru)
theorem getmeth_ok {m:Str} {g:Addr} {pl:Sem Bool} {Q:Value×List Value→Shared→Prop} (I:Inv X pins σ H s) (e:H a=some (.ins C dx fs)) (c:Cls X.K C) (k:Meth X.K C m g) (l:fs.lookup m=none)
 (h:Q (.ref g,[.ref a]) s):wpAny (model X.prog X.w) A (getMethod (.ref a) m pl) Q E s:=by
 obtain ⟨mA,O,r,_,_,_⟩:=ins_get I.hok e
 have hn:mA m=none:=RelO.none_of (by rw [←l];exact r m)
 exact get_meth I.kIn O (c.get m) k.at_ k.fn hn h
theorem setattr_ok {y:V} {u:Value} {Q:Unit→Shared→Prop} (I:Inv X pins σ H s) (e:H a=some (.ins C dx fs)) (c:Cls X.K C) (n:NoAttr X.K C f) (hl:fs.length < 1000) (ry:RelV y u)
 (h:∀s',Inv X pins σ (upd H a (.ins C dx (putF f y fs))) s'→Q () s'):wpAny (model X.prog X.w) A (setAttr (.ref a) f u) Q E s:=by
 obtain ⟨mA,O,r,wi,_,ho⟩:=ins_get I.hok e
 have hz:(fs.map (·.1)).length≤sizeLine:=by rw [List.length_map,sizeLine_eq];omega
 refine set_map I.kIn O c.sa c.po n.taker c.hd wi hz fun h' O' sb=>h _ ?_
 have hd:∃o,h'.get? dx=some o:=let ⟨o,_,_,e',_⟩:=O'.ns;⟨o,e'⟩
 refine I.write (x:=a) (e:=dx) (by rw [e];exact True.intro) (.inr ho) (fun b q hb z=>(sb.2 b hb).trans z) hd ?_
 refine ⟨by rw [upd_ne O.ne];exact ho,?_,O.ne,O'.obj,_,O'.ns,fun g=>?_,fun g hg=>?_⟩
 ·have:=length_putF f y fs;omega
 ·show RelO ((putF f y fs).lookup g) (if g=f then some u else mA g)
  rw [lookup_putF]
  by_cases q:g=f
  ·rw [if_pos q,if_pos q];exact ry
  ·rw [if_neg q,if_neg q];exact r g
 ·by_cases q:g=f
  ·rw [q];exact (keys_putF f y fs).1
  ·refine (keys_putF f y fs).2 g (wi g fun z=>hg ?_)
   show (if g=f then some u else mA g)=none
   rw [if_neg q];exact z
theorem Inv.made (I:Inv X pins σ H s):Inv X pins σ (upd (upd H s.heap.objs.size (.own (s.heap.objs.size + 1))) (s.heap.objs.size + 1) (.ins C s.heap.objs.size []))
 {s with heap:=(s.heap.push PySem.W.emptyDict).push (PySem.W.instObj C s.heap.objs.size)}:=by
 have e1:(s.heap.push PySem.W.emptyDict).get? s.heap.objs.size=some PySem.W.emptyDict:=Heap.get?_push_size s.heap rfl
 have e2:((s.heap.push PySem.W.emptyDict).push (PySem.W.instObj C s.heap.objs.size)).get? (s.heap.objs.size + 1)=some (PySem.W.instObj C s.heap.objs.size):=by
  have:=Heap.get?_push_size (s.heap.push PySem.W.emptyDict) (o:=PySem.W.instObj C s.heap.objs.size) rfl
  rwa [Heap.size_push] at this
 have e3:(s.heap.push PySem.W.emptyDict).Ns s.heap.objs.size (fun _=>none):=⟨PySem.W.emptyDict,#[],_,e1,rfl,(fun e he=>absurd he (by simp)),fun _=>rfl⟩
 have I1:=I.laid (a:=s.heap.objs.size) (o:=.own (s.heap.objs.size + 1)) (h':=s.heap.push PySem.W.emptyDict) (t':=s.toks) (fun b u q=>Heap.get?_push_of_some _ q) (Nat.le_refl _) ⟨_,e1⟩
 refine I1.laid (a:=s.heap.objs.size + 1) (o:=.ins C s.heap.objs.size []) (t':=s.toks) (fun b u q=>Heap.get?_push_of_some _ q) (Nat.le_of_eq (Heap.size_push _ _)) ?_
 have ne:s.heap.objs.size≠s.heap.objs.size + 1:=Nat.ne_of_lt (Nat.lt_succ_self _)
 refine ⟨by rw [upd_ne ne,upd_same],Nat.zero_le _,ne,e2,fun _=>none,(Heap.Ns1.of_empty e3).at fun o q=>Heap.get?_push_of_some _ q,fun _=>True.intro,fun y hy=>absurd rfl hy⟩
theorem attr_of {prog:Program} {w:World} {env:Env} {e:Expr} {f:Str} {pos:Pos} {s:Shared} {Q:Value→Shared→Prop} (hb:attributeBase e f env (eval e env)=eval e env)
 (h:wpAny (model prog w) A (eval e env) (fun o s₁=>wpAny (model prog w) A (getAttr o f true) Q E s₁) E s):wpAny (model prog w) A (eval (.Attribute e f pos) env) Q E s:=
 Attribute_any_ h (by rw [arm_eval_Attribute,hb])
end
def tFld (K:PySem.W.Frag) (ta:TE) (f:Str):TE:=fun σ H Q=>ta σ H fun x H1=>∃a C dx fs v,x=.ref a∧H1 a=some (.ins C dx fs)∧Cls K C∧NoAttr K C f∧fs.lookup f=some v∧Q v H1
def sFld (K:PySem.W.Frag) (ta tv:TE) (f:Str):TS:=fun D σ H=>tv σ H fun y H1=>ta σ H1 fun x H2=>∃a C dx fs,x=.ref a∧H2 a=some (.ins C dx fs)∧Cls K C∧NoAttr K C f∧fs.length < 1000∧
 D.nx σ (upd H2 a (.ins C dx (putF f y fs)))
def InOp (X:Cx) (op:Operator) (rd:V→V→Hp→VK→Prop):Prop:=
 ∀(pins:List (Addr×Obj)) (s:Shared) (σ:St) (H:Hp) (x y:V) (u v:Value) (Q:VK),Inv X pins σ H s→RelV x u→RelV y v→rd x y H Q→wpAny (model X.prog X.w) X.A (inplaceOp op u v) (EP X pins σ Q) X.xe s
def sFldAug (K:PySem.W.Frag) (ta tv:TE) (rd:V→V→Hp→VK→Prop) (f:Str):TS:=fun D σ H=>ta σ H fun x H1=>∃a C dx fs v,x=.ref a∧H1 a=some (.ins C dx fs)∧Cls K C∧NoAttr K C f∧fs.lookup f=some v∧
 tv σ H1 fun y H2=>rd v y H2 fun z H3=>∃dx' fs',H3 a=some (.ins C dx' fs')∧fs'.length < 1000∧D.nx σ (upd H3 a (.ins C dx' (putF f z fs')))
section
variable {X:Cx} {o e value:Expr} {f:Str} {pos pos' tpos:Pos} {ta tv:TE}
theorem pe_fld (he:PE X e ta) (hb:attributeBase e f X.env (eval e X.env)=eval e X.env):PE X (.Attribute e f pos) (tFld X.K ta f):=by
 intro pins s σ H Q I h
 refine attr_of hb (thn (he pins s σ H _ I h) fun u s1 ⟨x,H1,I1,rx,a,C,dx,fs,v,ex,ea,c,n,l,q⟩=>?_)
 subst ex
 obtain rfl:u=Value.ref a:=rx
 exact getattr_ok I1 ea c n l fun u' s2 I2 ru=>⟨v,H1,I2,ru,q⟩
theorem ps_fld (ha:PE X o ta) (hv:PE X value tv) (hs:swapsWith value (some (.Attribute o f pos')) pos.line X.env=pure false):PS X (.Assign [.Attribute o f pos'] value pos) (sFld X.K ta tv f):=by
 intro pins s σ H D I h
 refine plainObj_wpAny_Assign_Attribute (thn (hv pins s σ H _ I h) fun u s1 ⟨y,H1,I1,ry,q⟩=>thn (ha pins s1 σ H1 _ I1 q) fun ov s2 ⟨x,H2,I2,rx,a,C,dx,fs,ex,ea,c,n,l,q2⟩=>?_) hs
 subst ex
 obtain rfl:ov=Value.ref a:=rx
 exact setattr_ok I2 ea c n l ry fun s3 I3=>⟨σ,_,I3,q2⟩
theorem ps_fldaug {op:Operator} {rd:V→V→Hp→VK→Prop} (ha:PE X o ta) (hv:PE X value tv) (hop:InOp X op rd):PS X (.AugAssign (.Attribute o f tpos) op value pos) (sFldAug X.K ta tv rd f):=by
 intro pins s σ H D I h
 refine wpAny_AugAssign_AttributeAny (thn (ha pins s σ H _ I h) fun ov s1 ⟨x,H1,I1,rx,a,C,dx,fs,v,ex,ea,c,n,l,q⟩=>?_)
 subst ex
 obtain rfl:ov=Value.ref a:=rx
 refine getattr_ok I1 ea c n l fun u s2 I2 ru=>thn (hv pins s2 σ H1 _ I2 q) fun w3 s3 ⟨y,H2,I3,ry,q3⟩=>thn (hop pins s3 σ H2 v y u w3 _ I3 ru ry q3) fun w4 s4 ⟨z,H3,I4,rz,dx',fs',ea',l',q4⟩=>?_
 exact setattr_ok I4 ea' c n l' rz fun s5 I5=>⟨σ,_,I5,q4⟩
def rAdd:V→V→Hp→VK→Prop:=fun x y H Q=>∃i j,x=.int i∧y=.int j∧Q (.int (i + j)) H
theorem in_add:InOp X .Add rAdd:=by
 rintro pins s σ H x y u v Q I rx ry ⟨i,j,rfl,rfl,q⟩
 obtain ⟨t,rfl⟩:=(show ∃t,u=Value.int i t from rx)
 obtain ⟨t',rfl⟩:=(show ∃t',v=Value.int j t' from ry)
 exact PyProof.Rows.iadd_int ⟨.int (i + j),H,I.tok _,⟨_,rfl⟩,q⟩
end
section
variable {X:Cx} {pins:List (Addr×Obj)} {σ:St} {H:Hp} {s:Shared} {A:Around} {E:Value→Shared→Prop} {Q:Value→Shared→Prop} {c:Value} {b:Bool}
end
end L2
namespace L2
open PySem PySem.Spec PyProof.Rows
structure Room (k:Nat) (A:Around):Prop where
 hd:A.handled=none
 dp:A.depth + 3 * k + 5 < recursionLimit
 un:A.units + 16 * k + 200 < cLine
theorem Room.mono {j k:Nat} {A:Around} (r:Room k A) (h:j≤k):Room j A:=⟨r.hd,by have:=r.dp;omega,by have:=r.un;omega⟩
theorem Room.deeper {k:Nat} {A:Around} (r:Room (k + 1) A) (env:Env):Room k (A.deeper env):=
 ⟨r.hd,by have:=r.dp;show A.depth + 1 + 3 * k + 5 < _;omega,by have:=r.un;show A.units + 3 + 16 * k + 200 < _;omega⟩
theorem make_depth {A:Around} {C:Addr} {us:List Value} {kw:List (Str×Value)}:(A.under (.builtin "type.__call__" ⟨.ref C::us,kw⟩)).depth=A.depth + 1:=by
 first | rfl | simp [Around.under,Code.weight,Code.isCreation,Code.isGuard,Code.isCaller,Code.frames,Code.isFrame,guardIds]
theorem make_units {A:Around} {C:Addr} {us:List Value} {kw:List (Str×Value)}:(A.under (.builtin "type.__call__" ⟨.ref C::us,kw⟩)).units=A.units + 1:=by
 first | rfl | simp [Around.under,Code.cUnits,Code.frames,Code.isFrame]
theorem Room.make {k:Nat} {A:Around} (r:Room (k + 1) A) (C:Addr) (us:List Value) (kw:List (Str×Value)):Room k (A.under (.builtin "type.__call__" ⟨.ref C::us,kw⟩)):=
 ⟨r.hd,by have:=r.dp;rw [make_depth];omega,by have:=r.un;rw [make_units];omega⟩
theorem Room.depth {k:Nat} {A:Around} (r:Room k A):A.depth < recursionLimit:=by have:=r.dp;omega
theorem Room.units {k:Nat} {A:Around} (r:Room k A):A.units + 64 < cLine:=by have:=r.un;omega
def tNil:TA:=fun _ H Q=>Q [] H
def tCons (ta:TE) (tr:TA):TA:=fun σ H Q=>ta σ H fun x H1=>tr σ H1 fun xs H2=>Q (x::xs) H2
section
variable {X:Cx} {e:Expr} {es:List Expr} {te:TE} {t:TA} {pos:Pos}
theorem pa_nil:PA X [] tNil:=fun _ _ _ _ H Q I h=>Calls.spliced_nil ⟨[],H,I,.nil,h⟩
theorem pa_cons (ha:PE X e te) (hr:PA X es t) (hs:starEach (e::es) X.env=(false,eval e X.env)::starEach es X.env:=by rfl):PA X (e::es) (tCons te t):=by
 intro pos pins s σ H Q I h
 rw [hs]
 show wpAny _ _ (spliced ((false,eval e X.env)::backTo pos (starEach es X.env))) _ _ s
 refine Calls.spliced_cons (thn (ha pins s σ H _ I h) fun u s1 ⟨x,H1,I1,r1,q1⟩=>?_)
 exact thn (hr pos pins s1 σ H1 _ I1 q1) fun us s2 ⟨xs,H2,I2,r2,q2⟩=>⟨x::xs,H2,I2,.cons r1 r2,q2⟩
def tTup (t:TA):TE:=fun σ H Q=>t σ H fun xs H1=>xs.length≤sizeLine∧∀p,H1 p=none→Q (.ref p) (upd H1 p (.tup xs))
def tLst (t:TA):TE:=fun σ H Q=>t σ H fun xs H1=>xs.length≤sizeLine∧∀p,H1 p=none→Q (.ref p) (upd H1 p (.lst xs))
theorem pe_tup {x1} (h:PA X es t):PE X (.Tuple es x1 pos) (tTup t):=by
 intro pins s σ H Q I hq
 refine wpAny_Tuple_spliced (thn (h pos pins s σ H _ I hq) fun us s1 ⟨xs,H1,I1,r,z,q⟩=>⟨by rw [←r.length];exact z,?_⟩)
 have hf:H1 s1.heap.objs.size=none:=I1.hok.fresh (Nat.le_refl _)
 refine ⟨.ref s1.heap.objs.size,upd H1 s1.heap.objs.size (.tup xs),I1.laid (t':=s1.toks) (fun b u e=>Heap.get?_push_of_some _ e) (Nat.le_refl _) ?_,rfl,q _ hf⟩
 exact ⟨z,us,r,⟨_,Heap.get?_push_size _ rfl,rfl,_,rfl⟩⟩
theorem pe_lst (h:PA X es t):PE X (.List es pos) (tLst t):=by
 intro pins s σ H Q I hq
 refine wpAny_List_spliced (thn (h pos pins s σ H _ I hq) fun us s1 ⟨xs,H1,I1,r,z,q⟩=>⟨by rw [←r.length];exact z,?_⟩)
 have hf:H1 s1.heap.objs.size=none:=I1.hok.fresh (Nat.le_refl _)
 refine ⟨.ref s1.heap.objs.size,upd H1 s1.heap.objs.size (.lst xs),I1.laid (t':=s1.toks) (fun b u e=>Heap.get?_push_of_some _ e) (Nat.le_refl _) ?_,rfl,q _ hf⟩
 exact ⟨z,us,0,r,Heap.get?_push_size _ rfl⟩
end
abbrev Sp:=List V→Hp→VK→XK→Prop
abbrev CXT:=List Env→Hp→Shared→XK→Value→Shared→Prop
structure Env0 (P:Program) (w:World) (K:PySem.W.Frag) (mg:Str→Option Value) (base:Heap) (A:Around) (outer:List Env) (s:Shared) (H:Hp):Prop where
 frames:A.frames=some outer
 mod:Mod K mg base
 bs:∀b o,base.get? b=some o→s.heap.get? b=some o∧H b=none
 bsz:base.objs.size≤s.heap.objs.size
 funs:s.heap.FunFrames base outer
 frf:∀b∈frs outer,H b=none
 hok:HOk P w H s.heap
 bare:AllBare s.gens
def CE (outer:List Env) (P:Program) (w:World) (H:Hp) (s:Shared) (Q:VK) (u:Value) (s':Shared):Prop:=
 ∃v H',s'.os=s.os∧AllBare s'.gens∧Un (frs outer) [] H H' s.heap s'.heap∧HOk P w H' s'.heap∧RelV v u∧Q v H'
def CR (CX:CXT) (outer:List Env) (P:Program) (w:World) (H:Hp) (s:Shared) (Q:VK) (E:XK) (r:Result) (s':Shared):Prop:=
 match r with
 | .ok (.ret u)=>CE outer P w H s Q u s'
 | .ok _=>False
 | .error e=>CX outer H s E e s'
structure FnOk (P:Program) (w:World) (K:PySem.W.Frag) (mg:Str→Option Value) (base:Heap) (CX:CXT) (k:Nat) (f:Addr) (fd:FuncData) (ps:List Str) (sp:Sp):Prop where
 len:∀vs H Q E,sp vs H Q E→vs.length=ps.length
 run:∀(A:Around) (outer:List Env) (s:Shared) (H:Hp) (args:Args) (us:List Value) (vs:List V) (Q:VK) (E:XK),Room k A→Env0 P w K mg base A outer s H→BindsTo s fd args (ps.zip us)→Vals vs us→sp vs H Q E→
  codeAny (model P w) A (.call (.ref f) args) (CR CX outer P w H s Q E) s
theorem FnOk.mono {P:Program} {w:World} {K:PySem.W.Frag} {mg:Str→Option Value} {base:Heap} {CX:CXT} {j k:Nat} {f:Addr} {fd:FuncData} {ps:List Str} {sp:Sp} (F:FnOk P w K mg base CX j f fd ps sp) (h:j≤k):
 FnOk P w K mg base CX k f fd ps sp:=⟨F.len,fun A outer s H args us vs Q E hr=>F.run A outer s H args us vs Q E (hr.mono h)⟩
theorem Env0.make {P:Program} {w:World} {K:PySem.W.Frag} {mg:Str→Option Value} {base:Heap} {A:Around} {outer:List Env} {s:Shared} {H:Hp} (e:Env0 P w K mg base A outer s H) (C:Addr) (us:List Value) (kw:List (Str×Value)):
 Env0 P w K mg base (A.under (.builtin "type.__call__" ⟨.ref C::us,kw⟩)) outer s H:=⟨by first | exact e.frames | (simpa [Around.under,Code.envs,Code.isFrame,pushEnvs] using e.frames),e.mod,e.bs,e.bsz,e.funs,e.frf,e.hok,e.bare⟩
section
variable {X:Cx} {pins:List (Addr×Obj)} {σ:St} {H:Hp} {s s':Shared}
theorem Inv.env0 (I:Inv X pins σ H s):Env0 X.prog X.w X.K X.mg X.base X.A X.stack s H:=
 ⟨I.ok.frames,I.ok.mod,I.bs,Nat.le_trans I.ok.bsz I.sz,I.stack,I.stkFree,I.hok,I.bare⟩
theorem Inv.after {Q:VK} {u:Value} (I:Inv X pins σ H s) (h:CE X.stack X.prog X.w H s Q u s'):EP X pins σ Q u s':=by
 obtain ⟨v,H',os,bare,un,hok,r,q⟩:=h
 obtain ⟨hh,g,d,t,os'⟩:=s'
 obtain rfl:os'=s.os:=os
 exact ⟨v,H',I.call (h':=hh) (g':=g) (d':=d) (t':=t) (ch:=[]) un hok bare (fun b z=>absurd z (by simp)),r,q⟩
end
def tCall (sp:Sp) (dvs:List V) (E:XK) (t:TA):TE:=fun σ H Q=>t σ H fun vs H1=>sp (vs++dvs) H1 Q E
def tMeth (C:Addr) (m:Str) (sp:Sp) (dvs:List V) (E:XK) (ta:TE) (t:TA):TE:=fun σ H Q=>ta σ H fun x H1=>∃a dx fs,x=.ref a∧H1 a=some (.ins C dx fs)∧fs.lookup m=none∧
 t σ H1 fun vs H2=>sp (x::(vs++dvs)) H2 Q E
def tMake (C:Addr) (sp:Sp) (dvs:List V) (E:XK) (t:TA):TE:=fun σ H Q=>t σ H fun vs H1=>∀x dx,H1 x=none→H1 dx=none→dx≠x→
 sp (.ref x::(vs++dvs)) (upd (upd H1 dx (.own x)) x (.ins C dx [])) (fun v H2=>v=.non∧Q (.ref x) H2) E
def Binds (K:PySem.W.Frag) (fd:FuncData) (ps:List Str) (ds:List Value):Prop:=
 ∀(s:Shared) (us:List Value),K.In s.heap→(us++ds).length=ps.length→BindsTo s fd ⟨us,[]⟩ (ps.zip (us++ds))
theorem Binds.all {K:PySem.W.Frag} {fd:FuncData} {ps:List Str} (h:∀us:List Value,us.length=ps.length→bindArgs fd ⟨us,[]⟩=pure (ps.zip us)):Binds K fd ps []:=fun s us _ hl=>by
 rw [List.append_nil] at hl ⊢
 exact .of_eq (h us hl)
def Passes (CX:CXT) (X:Cx) (E:XK):Prop:=∀(pins:List (Addr×Obj)) (σ:St) (H:Hp) (s:Shared) (e:Value) (s':Shared),Inv X pins σ H s→CX X.stack H s E e s'→X.xe e s'
section
variable {X:Cx} {CX:CXT} {k:Nat} {f C:Addr} {fd:FuncData} {ps:List Str} {sp:Sp} {dvs:List V} {ds:List Value} {E:XK} {x m:Str} {p pos apos:Pos} {e o:Expr} {es:List Expr} {ta:TE} {t:TA}
theorem run_fn {pins:List (Addr×Obj)} {σ:St} {H:Hp} {s:Shared} {Q:VK} {us:List Value} {vs:List V} (F:FnOk X.prog X.w X.K X.mg X.base CX k f fd ps sp) (hr:Room k X.A) (hb:Binds X.K fd ps ds) (hd:Vals dvs ds) (hx:Passes CX X E)
 (I:Inv X pins σ H s) (r:Vals vs us) (h:sp (vs++dvs) H Q E):wpAny (model X.prog X.w) X.A (call (.ref f) us) (EP X pins σ Q) X.xe s:=by
 have r2:Vals (vs++dvs) (us++ds):=r.append hd
 have hl:(us++ds).length=ps.length:=by rw [←r2.length];exact F.len _ _ _ _ h
 refine wpAny_call (codeAny_mono (F.run X.A X.stack s H ⟨us,[]⟩ (us++ds) (vs++dvs) Q E hr I.env0 (hb s us I.kIn hl) r2 h) fun r s' hq=>?_)
 cases r with
 | error e=>exact hx pins σ H s e s' I hq
 | ok fl=>
  cases fl with
  | ret u=>exact I.after hq
  | next=>exact False.elim hq
  | brk=>exact False.elim hq
  | cont=>exact False.elim hq
theorem pe_call (F:FnOk X.prog X.w X.K X.mg X.base CX k f fd ps sp) (hr:Room k X.A) (hg:Gl X x) (hm:X.mg x=some (.ref f)) (hk:PySem.W.keepIn X.K (.ref f)=true) (hb:Binds X.K fd ps ds) (hd:Vals dvs ds) (hx:Passes CX X E)
 (ha:PA X (e::es) t) (hdb:(x==("__debug__":Str))=false:=by decide) (he:starEach (e::es) X.env=(false,eval e X.env)::starEach es X.env:=by rfl) (hpl:(backTo pos (starEach es X.env)).any (·.1)=false:=by rfl):
 PE X (.Call (.Name x p) (e::es) [] pos) (tCall sp dvs E t):=by
 intro pins s σ H Q I h
 refine wpAny_Call_Name_kw (ld_glob I hg hm ?_ hdb)
 refine PySem.W.callWith_K (h₀:=X.base) I.ok.mod.kin hk (thn (ha pos pins s σ H _ I h) fun us s1 ⟨vs,H1,I1,r,q⟩=>⟨I1.kIn,?_⟩) he hpl
 exact run_fn F hr hb hd hx I1 r q
theorem pe_meth {pl:Sem Bool} (he:PE X o ta) (c:Cls X.K C) (hm:Meth X.K C m f) (F:FnOk X.prog X.w X.K X.mg X.base CX k f fd ps sp) (hr:Room k X.A) (hb:Binds X.K fd ps ds) (hd:Vals dvs ds) (hx:Passes CX X E) (ha:PA X (e::es) t)
 (hst:starEach (e::es) X.env=(false,eval e X.env)::starEach es X.env:=by rfl) (hpl:(backTo pos (starEach es X.env)).any (·.1)=false:=by rfl)
 (ht:eval (.Call (.Attribute o m apos) (e::es) [] pos) X.env=(do
  let ov ←eval o X.env
  standAt apos.atName
  let (f,first) ←holding [ov] (getMethod ov m pl)
  callWith pos f first (backTo pos (starEach (e::es) X.env)) (backToKw pos (keywordEach [] X.env))):=by rfl):
 PE X (.Call (.Attribute o m apos) (e::es) [] pos) (tMeth C m sp dvs E ta t):=by
 intro pins s σ H Q I h
 refine PySem.W.methodCall_KW (pl:=pl) (thn (he pins s σ H _ I h) fun u s1 ⟨x,H1,I1,rx,a,dx,fs,ex,ea,l,q⟩=>?_) ht
 subst ex
 obtain rfl:u=Value.ref a:=rx
 refine getmeth_ok I1 ea c hm l ?_
 refine PySem.W.callWith_K (first:=[.ref a]) (h₀:=X.base) I.ok.mod.kin hm.kp (thn (ha pos pins s1 σ H1 _ I1 q) fun us s2 ⟨vs,H2,I2,r,q2⟩=>⟨I2.kIn,?_⟩) hst hpl
 exact run_fn (us:=.ref a::us) (vs:=.ref a::vs) F hr hb hd hx I2 (.cons rfl r) q2
theorem pe_meth0 {pl:Sem Bool} (he:PE X o ta) (c:Cls X.K C) (hm:Meth X.K C m f) (F:FnOk X.prog X.w X.K X.mg X.base CX k f fd ps sp) (hr:Room k X.A) (hb:Binds X.K fd ps ds) (hd:Vals dvs ds) (hx:Passes CX X E)
 (ht:eval (.Call (.Attribute o m apos) [] [] pos) X.env=(do
  let ov ←eval o X.env
  standAt apos.atName
  let (f,first) ←holding [ov] (getMethod ov m pl)
  callWith pos f first (backTo pos (starEach [] X.env)) (backToKw pos (keywordEach [] X.env))):=by rfl):
 PE X (.Call (.Attribute o m apos) [] [] pos) (tMeth C m sp dvs E ta tNil):=by
 intro pins s σ H Q I h
 refine PySem.W.methodCall_KW (pl:=pl) (thn (he pins s σ H _ I h) fun u s1 ⟨x,H1,I1,rx,a,dx,fs,ex,ea,l,q⟩=>?_) ht
 subst ex
 obtain rfl:u=Value.ref a:=rx
 refine getmeth_ok I1 ea c hm l ?_
 exact PySem.W.callWith_K0 (first:=[.ref a]) I1.kIn hm.kp (run_fn (us:=[.ref a]) (vs:=[.ref a]) F hr hb hd hx I1 (.cons rfl .nil) q)
structure Mk (K:PySem.W.Frag) (C f:Addr):Prop where
 makes:PySem.W.makesIn K C=true
 init:PySem.W.findIn K (.ref C) "__init__"=some (some (.ref f))
 fn:PySem.W.isFn K (.ref f)=true
 kp:PySem.W.keepIn K (.ref C)=true
theorem run_make {pins:List (Addr×Obj)} {σ:St} {H:Hp} {s:Shared} {Q:VK} {us:List Value} {vs:List V} (M:Mk X.K C f) (F:FnOk X.prog X.w X.K X.mg X.base CX k f fd ps sp) (hr:Room (k + 1) X.A) (hb:Binds X.K fd ps ds) (hd:Vals dvs ds)
 (hx:Passes CX X E) (I:Inv X pins σ H s) (r:Vals vs us)
 (h:∀x dx,H x=none→H dx=none→dx≠x→sp (.ref x::(vs++dvs)) (upd (upd H dx (.own x)) x (.ins C dx [])) (fun v H2=>v=.non∧Q (.ref x) H2) E):
 wpAny (model X.prog X.w) X.A (call (.ref C) us) (EP X pins σ Q) X.xe s:=by
 have hq:=h (s.heap.objs.size + 1) s.heap.objs.size (I.hok.fresh (Nat.le_succ _)) (I.hok.fresh (Nat.le_refl _)) (Nat.ne_of_lt (Nat.lt_succ_self _))
 have I2:=Inv.made (C:=C) I
 have r2:Vals (V.ref (s.heap.objs.size + 1)::(vs++dvs)) (Value.ref (s.heap.objs.size + 1)::(us++ds)):=.cons rfl (r.append hd)
 have hl:(Value.ref (s.heap.objs.size + 1)::us++ds).length=ps.length:=by
  have e:=r2.length
  rw [F.len _ _ _ _ hq] at e
  exact e.symm
 refine wpAny_call (make_map (f:=f) I.kIn M.makes M.init (beq_iff_eq.mp M.fn) (codeAny_mono (F.run _ X.stack _ _ ⟨Value.ref (s.heap.objs.size + 1)::us,[]⟩ (Value.ref (s.heap.objs.size + 1)::(us++ds)) _ _ E (hr.make C us [])
  (I2.env0.make C us []) (hb _ (Value.ref (s.heap.objs.size + 1)::us) I2.kIn hl) r2 hq) fun r s' hq'=>?_))
 cases r with
 | error e=>exact hx pins σ _ _ e s' I2 hq'
 | ok fl=>
  cases fl with
  | ret u=>
   obtain ⟨v,H',I3,rv,ev,q3⟩:=I2.after hq'
   subst ev
   exact ⟨rv,⟨V.ref (s.heap.objs.size + 1),H',I3,rfl,q3⟩⟩
  | next=>exact False.elim hq'
  | brk=>exact False.elim hq'
  | cont=>exact False.elim hq'
theorem pe_make (M:Mk X.K C f) (F:FnOk X.prog X.w X.K X.mg X.base CX k f fd ps sp) (hr:Room (k + 1) X.A) (hg:Gl X x) (hm:X.mg x=some (.ref C)) (hb:Binds X.K fd ps ds) (hd:Vals dvs ds) (hx:Passes CX X E)
 (ha:PA X (e::es) t) (hdb:(x==("__debug__":Str))=false:=by decide) (he:starEach (e::es) X.env=(false,eval e X.env)::starEach es X.env:=by rfl) (hpl:(backTo pos (starEach es X.env)).any (·.1)=false:=by rfl):
 PE X (.Call (.Name x p) (e::es) [] pos) (tMake C sp dvs E t):=by
 intro pins s σ H Q I h
 refine wpAny_Call_Name_kw (ld_glob I hg hm ?_ hdb)
 refine PySem.W.callWith_K (h₀:=X.base) I.ok.mod.kin M.kp (thn (ha pos pins s σ H _ I h) fun us s1 ⟨vs,H1,I1,r,q⟩=>⟨I1.kIn,?_⟩) he hpl
 exact run_make M F hr hb hd hx I1 r q
theorem pe_make0 (M:Mk X.K C f) (F:FnOk X.prog X.w X.K X.mg X.base CX k f fd ps sp) (hr:Room (k + 1) X.A) (hg:Gl X x) (hm:X.mg x=some (.ref C)) (hb:Binds X.K fd ps ds) (hd:Vals dvs ds) (hx:Passes CX X E)
 (hdb:(x==("__debug__":Str))=false:=by decide):PE X (.Call (.Name x p) [] [] pos) (tMake C sp dvs E tNil):=by
 intro pins s σ H Q I h
 refine wpAny_Call_Name_kw (ld_glob I hg hm ?_ hdb)
 exact PySem.W.callWith_K0 I.kIn M.kp (run_make (us:=[]) M F hr hb hd hx I .nil h)
end
section
variable {X:Cx} {CX:CXT} {k:Nat} {f C:Addr} {fd:FuncData} {ps ks:List Str} {sp:Sp} {E:XK} {x m:Str} {p pos apos kpos:Pos} {e o:Expr} {es:List Expr} {kws:List Keyword} {te ta:TE} {t tk:TA} {nm:Option Str}
variable {g:List Value→List Value→List Value} {gV:List V→List V→List V}
end
structure FnScope (N P:List Str) (sc:Scope):Prop where
 kind:sc.kind=.function
 co:sc.isCoroutine=false
 gen:sc.isGenerator=false
 nd:N.Nodup
 pre:N.take P.length=P
 par:∀x∈P,sc.names.lookup x=some .local∨sc.names.lookup x=some .cell
 nofree:∀y∈sc.names,y.2≠.free
theorem bindL_out {kindOf:Str→Option NameKind} {x:Str}:∀{binds:List (Str×Value)} {m:Str→Option Value},(∀v,(x,v) ∉ binds)→bindL kindOf binds m x=m x
 | [],_,_=>rfl
 | (n,v)::r,m,h=>by
  unfold bindL
  rw [bindL_out fun w hw=>h w (List.mem_cons_of_mem _ hw)]
  split
  ·have:x≠n:=by rintro rfl;exact h v List.mem_cons_self
   simp [this]
  ·rfl
theorem bindC_out {kindOf:Str→Option NameKind} {x:Str}:∀{binds:List (Str×Value)} {m:Str→Option Value},(∀v,(x,v) ∉ binds)→bindC kindOf binds m x=m x
 | [],_,_=>rfl
 | (n,v)::r,m,h=>by
  unfold bindC
  rw [bindC_out fun w hw=>h w (List.mem_cons_of_mem _ hw)]
  split
  ·rfl
  ·have:x≠n:=by rintro rfl;exact h v List.mem_cons_self
   simp [this]
theorem bindL_get {kindOf:Str→Option NameKind} {x:Str} {v:Value}:∀{P:List Str} {vs:List Value} {i:Nat} {m:Str→Option Value},P.Nodup→P[i]?=some x→vs[i]?=some v→kindOf x=some .local→
 bindL kindOf (P.zip vs) m x=some v
 | [],_,_,_,_,h,_,_=>by simp at h
 | _::_,[],_,_,_,_,h,_=>by simp at h
 | p::P,w::vs,0,m,nd,h1,h2,hk=>by
  simp at h1 h2;subst h1;subst h2
  show bindL kindOf ((p,w)::P.zip vs) m p=_
  unfold bindL
  rw [bindL_out fun v hv=>(List.nodup_cons.mp nd).1 (List.of_mem_zip hv).1,if_pos hk]
  simp
 | p::P,w::vs,i + 1,m,nd,h1,h2,hk=>by
  show bindL kindOf ((p,w)::P.zip vs) m x=_
  unfold bindL
  exact bindL_get (i:=i) (List.nodup_cons.mp nd).2 (by simpa using h1) (by simpa using h2) hk
theorem bindC_get {kindOf:Str→Option NameKind} {x:Str} {v:Value}:∀{P:List Str} {vs:List Value} {i:Nat} {m:Str→Option Value},P.Nodup→P[i]?=some x→vs[i]?=some v→kindOf x≠some .local→
 bindC kindOf (P.zip vs) m x=some v
 | [],_,_,_,_,h,_,_=>by simp at h
 | _::_,[],_,_,_,_,h,_=>by simp at h
 | p::P,w::vs,0,m,nd,h1,h2,hk=>by
  simp at h1 h2;subst h1;subst h2
  show bindC kindOf ((p,w)::P.zip vs) m p=_
  unfold bindC
  rw [bindC_out fun v hv=>(List.nodup_cons.mp nd).1 (List.of_mem_zip hv).1,if_neg hk]
  simp
 | p::P,w::vs,i + 1,m,nd,h1,h2,hk=>by
  show bindC kindOf ((p,w)::P.zip vs) m x=_
  unfold bindC
  exact bindC_get (i:=i) (List.nodup_cons.mp nd).2 (by simpa using h1) (by simpa using h2) hk
def start (N:List Str) (vs:List V):St:=vs.map some++List.replicate (N.length - vs.length) none
def cxOf (CX:CXT) (P:Program) (w:World) (K:PySem.W.Frag) (mg:Str→Option Value) (base:Heap) (N:List Str) (qual:Str) (scope:Scope) (f:Addr) (cd:Value) (A:Around) (outer:List Env) (s:Shared) (H:Hp) (E:XK):Cx where
 prog:=P
 w:=w
 K:=K
 mg:=mg
 base:=base
 A:=A.deeper (envOfC qual scope s.heap.objs.size f cd)
 N:=N
 s_0:=s
 H_0:=H
 env:=envOfC qual scope s.heap.objs.size f cd
 outer:=outer
 stack:=envOfC qual scope s.heap.objs.size f cd::outer
 ex:=[]
 calm:=true
 fn:=fun _=>true
 pn:=[]
 xe:=fun e s'=>wpAny (model P w) (A.deeper (envOfC qual scope s.heap.objs.size f cd)) (leaving (envOfC qual scope s.heap.objs.size f cd) e) (fun _ s''=>CX outer H s E e s'') (fun e' s''=>CX outer H s E e' s'') s'
theorem cell_has {sc:Scope} {n:Nat} {x:Str} (h:sc.names.lookup x=some .cell):∃c,(cellsFrom n sc.names []).lookup x=some c:=by
 have q:=PySem.W.cellsFrom_some sc.names n [] (.inl h)
 exact Option.isSome_iff_exists.mp q
theorem inv_start {CX:CXT} {P:Program} {w:World} {K:PySem.W.Frag} {mg:Str→Option Value} {base:Heap} {N ps:List Str} {qual:Str} {scope:Scope} {f:Addr} {cd:Value} {A:Around} {outer:List Env} {s s1:Shared} {H:Hp} {E:XK} {us:List Value} {vs:List V}
 (S:FnScope N ps scope) (hd:A.handled=none) (e0:Env0 P w K mg base A outer s H) (hl:vs.length=ps.length) (r:Vals vs us)
 (x:InCallC s s.heap.objs.size (bindL (envOfC qual scope s.heap.objs.size f cd).kindOf (ps.zip us) fun _=>none) (cellsFrom (s.heap.objs.size + 1) scope.names []) (bindC (envOfC qual scope s.heap.objs.size f cd).kindOf (ps.zip us) fun _=>none) s1):
 Inv (cxOf CX P w K mg base N qual scope f cd A outer s H E) [] (start N vs) H s1:=by
 have hpl:ps.length≤N.length:=by have:=congrArg List.length S.pre;rw [List.length_take] at this;omega
 obtain ⟨h1,tk,rfl,hk⟩:=x.done
 have noA:∀b:Addr,b ∉ (cxOf CX P w K mg base N qual scope f cd A outer s H E).ex:=fun b z=>absurd (show b∈([]:List Addr) from z) (by simp)
 refine ⟨⟨e0.mod,S.kind,rfl,rfl,Nat.le_refl _,fun y z c h1 h2=>?_,fun y hy=>?_,fun y c _ h=>?_,fun _=>hd,Around.frames_deeper e0.frames,.inr ⟨rfl,rfl⟩,fun b z=>absurd z (noA b),e0.bs,e0.bsz,fun b _ _=>noA b,fun b z=>absurd z (noA b),e0.funs,e0.frf⟩,
  rfl,e0.bare,Un.kept hk,⟨_,x.toInCall.ns,fun i y v h1 h2 h3=>?_⟩,fun y c h=>⟨_,x.cell y c h⟩,e0.hok.fresh (Nat.le_refl _),fun y c h=>?_,fun p hp=>absurd (show p∈([]:List (Addr×Obj)) from hp) (by simp),e0.hok.kept hk,?_⟩
 ·exact name_of_addr x.apart (PySem.mem_of_lookup h1) (PySem.mem_of_lookup h2)
 ·have hy:scope.names.lookup y=some .cell∨scope.names.lookup y=some .free:=hy
  rcases hy with hy | hy
  ·exact cell_has hy
  ·exact absurd rfl (S.nofree _ (PySem.mem_of_lookup hy))
 ·exact Nat.le_of_lt (x.above y c (PySem.mem_of_lookup h))
 ·have hi:i < vs.length:=by
   unfold start at h2
   by_cases hi:i < vs.length
   ·exact hi
   ·rw [List.getElem?_append_right (by simpa using hi)] at h2
    rw [List.getElem?_replicate] at h2
    split at h2<;>cases h2
  have ha:vs[i]?=some v:=by
   unfold start at h2
   rw [List.getElem?_append_left (by simpa using hi),List.getElem?_map] at h2
   cases e:vs[i]? with
   | none=>rw [e] at h2;cases h2
   | some a=>rw [e] at h2;cases h2;rfl
  obtain ⟨u,hu,rv⟩:=r.get ha
  have hp:ps[i]?=some y:=by
   rw [←S.pre,List.getElem?_take_of_lt (by omega)];exact h1
  have ndP:ps.Nodup:=by rw [←S.pre];exact S.nd.sublist (List.take_sublist _ _)
  refine ⟨u,rv,?_⟩
  rcases S.par y (List.mem_of_getElem? hp) with k | k
  ·exact .inl ⟨k,bindL_get ndP hp hu k⟩
  ·obtain ⟨c,e⟩:=cell_has (n:=s.heap.objs.size + 1) k
   refine .inr ⟨.inl k,c,e,?_⟩
   have q:=x.cell y c e
   rw [bindC_get ndP hp hu (by show scope.names.lookup y≠_;rw [k];decide)] at q
   exact q
 ·exact e0.hok.fresh (Nat.le_of_lt (x.above y c (PySem.mem_of_lookup h)))
 ·unfold start
  show _=N.length
  rw [List.length_append,List.length_map,List.length_replicate]
  omega
theorem fn_of {CX:CXT} {P:Program} {w:World} {K:PySem.W.Frag} {mg:Str→Option Value} {base:Heap} {k:Nat} {f:Addr} {name qual:Str} {params:Arguments} {body:List Stmt} {scope:Scope} {dV kV doc pm cdv ct oc:Value} {an od:Option Addr}
 {osl:Array (Option Value)} {N ps:List Str} {sp:Sp} (lk:K.lookup f=some ⟨oc,od,.func (PySem.W.fnOf name qual params body scope dV kV doc pm an cdv ct),osl⟩) (hcd:PySem.W.codeIn K cdv qual=true) (S:FnScope N ps scope)
 (len:∀vs H Q E,sp vs H Q E→vs.length=ps.length)
 (hbody:∀(A:Around) (outer:List Env) (s:Shared) (H:Hp) (vs:List V) (Q:VK) (E:XK),Room k (A.deeper (envOfC qual scope s.heap.objs.size f cdv))→sp vs H Q E→
  ∃t,PSs (cxOf CX P w K mg base N qual scope f cdv A outer s H E) body t∧t {nx:=fun _ H'=>Q .non H',rt:=Q} (start N vs) H):
 FnOk P w K mg base CX (k + 1) f (PySem.W.fnOf name qual params body scope dV kV doc pm an cdv ct) ps sp:=by
 refine ⟨len,fun A outer s H args us vs Q E hr e0 hb r hsp=>?_⟩
 have hl:=len _ _ _ _ hsp
 have KX:K.In s.heap:=e0.mod.kin.keeps fun b o e=>(e0.bs b o e).1
 have lim:s.heap.NoLimit:=e0.mod.nolimit.keeps fun b o e=>(e0.bs b o e).1
 have hkind:∀y∈ps.zip us,scope.names.lookup y.1=some .local∨(scope.names.lookup y.1=some .cell∧((cellsFrom (s.heap.objs.size + 1) scope.names []).lookup y.1).isSome=true):=fun ⟨n,v⟩ hy=>by
  rcases S.par n (List.of_mem_zip hy).1 with q | q
  ·exact .inl q
  ·exact .inr ⟨q,PySem.W.cellsFrom_some _ _ _ (.inl q)⟩
 refine codeAny_call_function hr.depth (KX _ _ lk) rfl S.co S.gen rfl (PySem.W.codeRec_of KX hcd) (hb _ _ _ _ ?_)
 refine wpAny_newFunctionEnv_cells S.kind hkind fun env he s1 x=>?_
 subst he
 refine ⟨lim.keeps x.toInCall.keep,codeAny_func ?_⟩
 obtain ⟨t,ht,hq⟩:=hbody A outer s H vs Q E (hr.deeper _) hsp
 have I:Inv (cxOf CX P w K mg base N qual scope f cdv A outer s H E) [] (start N vs) H s1:=inv_start S hr.hd e0 hl r x
 refine wpAny_mono (ht [] s1 (start N vs) H _ I hq) (fun fl s' hs=>?_) fun e s' hs=>hs
 have fin:∀{σ':St} {H':Hp} {v:V} {u:Value},Inv (cxOf CX P w K mg base N qual scope f cdv A outer s H E) [] σ' H' s'→RelV v u→Q v H'→CE outer P w H s Q u s':=
  fun {σ' H' v u} J rv q=>⟨v,H',J.os,J.bare,J.base,J.hok,rv,q⟩
 cases fl with
 | ret u=>
  obtain ⟨v,σ',H',J,rv,q⟩:=hs
  exact fin J rv q
 | next=>
  obtain ⟨σ',H',J,q⟩:=hs
  exact fin (v:=V.non) (u:=Value.none) J rfl q
 | brk=>
  obtain ⟨_,_,_,q⟩:=hs
  exact False.elim q
 | cont=>
  obtain ⟨_,_,_,q⟩:=hs
  exact False.elim q
end L2
namespace L2
open PySem PySem.Spec PyProof.Rows
section
variable {X:Cx} {x:Str} {p pos:Pos} {e:Expr} {es:List Expr} {t:TA} {id T:String} {r:List V→Hp→VK→Prop}
def tCB (r:List V→Hp→VK→Prop) (t:TA):TE:=fun σ H Q=>t σ H fun vs H1=>r vs H1 Q
theorem pe_callB (hc:CallR X (.builtin id) r) (hg:Gl X x) (hm:X.mg x=none) (hv:bootBuiltins x=some (.builtin id)) (ha:PA X (e::es) t) (hn:x≠"__name__":=by decide) (hdb:(x==("__debug__":Str))=false:=by decide)
 (he:starEach (e::es) X.env=(false,eval e X.env)::starEach es X.env:=by rfl) (hpl:(backTo pos (starEach es X.env)).any (·.1)=false:=by rfl):PE X (.Call (.Name x p) (e::es) [] pos) (tCB r t):=by
 intro pins s σ H Q I h
 refine wpAny_Call_Name_kw (ld_blt I hg hm hv ?_ hn hdb)
 exact PyProof.Rows.callWith_builtin1 (thn (ha pos pins s σ H _ I h) fun us s1 ⟨vs,H1,I1,r1,q1⟩=>hc pins s1 σ H1 vs us Q I1 r1 q1) he hpl
theorem pe_callTy (hc:CallR X (.type T) r) (hg:Gl X x) (hm:X.mg x=none) (hv:bootBuiltins x=some (.type T)) (ha:PA X (e::es) t) (hn:x≠"__name__":=by decide) (hdb:(x==("__debug__":Str))=false:=by decide)
 (he:starEach (e::es) X.env=(false,eval e X.env)::starEach es X.env:=by rfl) (hpl:(backTo pos (starEach es X.env)).any (·.1)=false:=by rfl):PE X (.Call (.Name x p) (e::es) [] pos) (tCB r t):=by
 intro pins s σ H Q I h
 refine wpAny_Call_Name_kw (ld_blt I hg hm hv ?_ hn hdb)
 exact PyProof.Rows.callWith_type1 (thn (ha pos pins s σ H _ I h) fun us s1 ⟨vs,H1,I1,r1,q1⟩=>hc pins s1 σ H1 vs us Q I1 r1 q1) he hpl
end
end L2
namespace HT
open PySem PyProof.Rows
section
open PySem.SeqAt
open PySem.AutoSeq1 (wpAny_loadPart')
open PySem.MeetsSeq PySem.MeetsSeq2 PySem.MeetsSeq3
end
section
variable {prog:Program} {w:World} {A:Around} {E:Value→Shared→Prop} {s:Shared}
def sIx (n d:Nat):Option Int→Nat
 | none=>d
 | some v=>if v < 0 then (v + (n:Int)).toNat else min v.toNat n
theorem sIx_nat (n d k:Nat):sIx n d (some (k:Int))=min k n:=by
 show (if (k:Int) < 0 then ((k:Int) + (n:Int)).toNat else min (k:Int).toNat n)=min k n
 rw [if_neg (by omega),Int.toNat_natCast]
end
end HT
namespace L2
open PySem PySem.Spec PyProof.Rows
abbrev TO:=St→Hp→(Option Int→Hp→Prop)→Prop
def PO (X:Cx) (e:Option Expr) (t:TO):Prop:=
 ∀(pins:List (Addr×Obj)) (s:Shared) (σ:St) (H:Hp) (Q:Option Int→Hp→Prop),Inv X pins σ H s→t σ H Q→
  wpAny (model X.prog X.w) X.A (evalPart e X.env) (fun u s'=>∃o H',Inv X pins σ H' s'∧IsPart u o∧Q o H') X.xe s
def tNoPart:TO:=fun _ H Q=>Q none H
def tPart (t:TE):TO:=fun σ H Q=>t σ H fun x H1=>∃i,x=.int i∧Q (some i) H1
section
variable {X:Cx} {e:Expr} {te:TE} {lo hi:Option Expr} {tl th:TO} {pos p2:Pos}
theorem po_none:PO X none tNoPart:=by
 intro pins s σ H Q I h
 rw [evalPart_none]
 exact wpAny_pure ⟨none,H,I,.none,h⟩
theorem po_some (h:PE X e te):PO X (some e) (tPart te):=by
 intro pins s σ H Q I hw
 rw [evalPart_some]
 refine thn (h pins s σ H _ I hw) fun u s1 ⟨x,H1,I1,r1,q1⟩=>?_
 obtain ⟨i,rfl,q⟩:=q1
 obtain ⟨t,rfl⟩:=r1
 exact ⟨some i,H1,I1,.int i t,q⟩
def SlR (X:Cx) (r:V→Option Int→Option Int→Hp→VK→Prop):Prop:=
 ∀(pins:List (Addr×Obj)) (s:Shared) (σ:St) (H:Hp) (x:V) (v vl vu:Value) (lo hi:Option Int) (sl:Addr) (Q:VK),Inv X pins σ H s→RelV x v→s.heap.IsSliceOf sl vl vu .none→IsPart vl lo→IsPart vu hi→r x lo hi H Q→
  ∃T id,typeLookup (.type T) "__getitem__"=pure (some (.builtin id))∧s.TypeIs v T∧wpAny (model X.prog X.w) X.A (getItem v (.ref sl)) (EP X pins σ Q) X.xe s
def tSl (r:V→Option Int→Option Int→Hp→VK→Prop) (te:TE) (tl th:TO):TE:=fun σ H Q=>te σ H fun x H1=>tl σ H1 fun l H2=>th σ H2 fun u H3=>r x l u H3 Q
theorem pe_slice {r:V→Option Int→Option Int→Hp→VK→Prop} (hr:SlR X r) (he:PE X e te) (hl:PO X lo tl) (hu:PO X hi th):PE X (.Subscript e (.Slice lo hi none p2) pos) (tSl r te tl th):=by
 intro pins s σ H Q I h
 refine Subscript_ (thn (he pins s σ H _ I h) fun v s1 ⟨x,H1,I1,r1,q1⟩=>?_)
 refine wpAny_Slice (thn (hl pins s1 σ H1 _ I1 q1) fun vl s2 ⟨l,H2,I2,pl,q2⟩=>thn (hu pins s2 σ H2 _ I2 q2) fun vu s3 ⟨u,H3,I3,pu,q3⟩=>?_)
 rw [evalPart_none]
 refine wpAny_pure ?_
 have I4:Inv X pins σ H3 {s3 with heap:=s3.heap.push {cls:=.type "slice",data:=.fields #[vl,vu,.none]}}:=I3.kept (t':=s3.toks) fun b ob q=>Heap.get?_push_of_some _ q
 obtain ⟨T,id,hT,ht,hg⟩:=hr pins {s3 with heap:=s3.heap.push {cls:=.type "slice",data:=.fields #[vl,vu,.none]}} σ H3 x v vl vu l u s3.heap.objs.size Q I4 r1 (Heap.IsSliceOf.new ..) pl pu q3
 show wpAny (model X.prog X.w) X.A (subscriptTail e (.Slice lo hi none p2) v (.ref s3.heap.objs.size)) (EP X pins σ Q) X.xe {s3 with heap:=s3.heap.push {cls:=.type "slice",data:=.fields #[vl,vu,.none]}}
 exact tail_any (ops:=[.ref s3.heap.objs.size,v]) ht hT hg (by with_unfolding_all rfl)
def cutV (xs:List V) (lo hi:Option Int):List V:=(xs.drop (HT.sIx xs.length 0 lo)).take (HT.sIx xs.length xs.length hi - HT.sIx xs.length 0 lo)
theorem cutV_length (xs:List V) (lo hi:Option Int):(cutV xs lo hi).length≤xs.length:=by
 unfold cutV
 rw [List.length_take,List.length_drop]
 omega
end
end L2
namespace L2
open PySem PySem.Spec PyProof.Rows
def ixN (n:Nat) (i:Int):Option Nat:=if 0≤i then (if i < n then some i.toNat else none) else if -(n:Int)≤i then some (i + n).toNat else none
def atI {α:Type} (xs:List α) (i:Int):Option α:=(ixN xs.length i).bind fun j=>xs[j]?
theorem ixN_seq {n:Nat} {i:Int} {j:Nat} (h:ixN n i=some j):seqIndex? i n=some j∧j < n∧-(n:Int)≤i∧i < n:=by
 unfold ixN at h
 by_cases h0:0≤i
 ·rw [if_pos h0] at h
  by_cases h1:i < n
  ·rw [if_pos h1] at h
   have e:i.toNat=j:=Option.some.inj h
   exact ⟨by rw [seqIndex_of h0 h1,e],by omega,by omega,h1⟩
  ·rw [if_neg h1] at h;cases h
 ·rw [if_neg h0] at h
  by_cases h1:-(n:Int)≤i
  ·rw [if_pos h1] at h
   have e:(i + n).toNat=j:=Option.some.inj h
   exact ⟨by rw [seqIndex_neg (by omega) h1,e],by omega,h1,by omega⟩
  ·rw [if_neg h1] at h;cases h
theorem atI_get {α:Type} {xs:List α} {i:Int} {v:α} (h:atI xs i=some v):∃j,seqIndex? i xs.length=some j∧xs[j]?=some v∧j < xs.length∧-(xs.length:Int)≤i∧i < xs.length:=by
 unfold atI at h
 cases e:ixN xs.length i with
 | none=>rw [e] at h;cases h
 | some j=>
  rw [e] at h
  obtain ⟨h1,h2,h3,h4⟩:=ixN_seq e
  exact ⟨j,h1,h,h2,h3,h4⟩
theorem atI_nat {α:Type} {xs:List α} {j:Nat} {v:α} (h:xs[j]?=some v):atI xs (j:Int)=some v:=by
 have hj:j < xs.length:=(List.getElem?_eq_some_iff.mp h).1
 have e:ixN xs.length (j:Int)=some j:=by
  unfold ixN
  rw [if_pos (by omega),if_pos (by omega)];simp
 unfold atI;rw [e];exact h
def PlainIx (b:Expr):Prop:=∀o i,subscripted b false o i=operate [o,i] (getItem o i)
def IxR (X:Cx) (r:R2):Prop:=
 ∀(value slice:Expr) (pins:List (Addr×Obj)) (s:Shared) (σ:St) (H:Hp) (x y:V) (v u:Value) (Q:VK),Inv X pins σ H s→RelV x v→RelV y u→r x y H Q→
  subscripted slice false v u=operate [v,u] (getItem v u)→wpAny (model X.prog X.w) X.A (subscriptTail value slice v u) (EP X pins σ Q) X.xe s
def MtR (X:Cx) (id:String) (r:V→List V→Hp→VK→Prop):Prop:=
 ∀(pins:List (Addr×Obj)) (s:Shared) (σ:St) (H:Hp) (x:V) (xs:List V) (v:Value) (us:List Value) (Q:VK),Inv X pins σ H s→RelV x v→Vals xs us→r x xs H Q→
  wpAny (model X.prog X.w) X.A (call (.builtin id) (v::us)) (EP X pins σ Q) X.xe s
section
variable {X:Cx} {a b:Expr} {ta tb:TE} {pos:Pos}
theorem pe_ix {r:R2} (hr:IxR X r) (ha:PE X a ta) (hb:PE X b tb) (hs:PlainIx b):PE X (.Subscript a b pos) (tOp r ta tb):=by
 intro pins s σ H Q I h
 exact Subscript_ (binT ha hb I h fun v u s2 x y H2 I2 rx ry q=>hr a b pins s2 σ H2 x y v u Q I2 rx ry q (hs _ _))
def rIxL (K:PySem.W.Frag):R2:=fun x y H Q=>∃p xs i v,x=.ref p∧y=.int i∧SqL K H p xs∧atI xs i=some v∧Q v H
theorem ix_list:IxR X (rIxL X.K):=by
 intro value slice pins s σ H x y v u Q I rx ry h hs
 obtain ⟨p,xs,i,z,rfl,rfl,hq,he,q⟩:=h
 cases rx
 obtain ⟨t,rfl⟩:=ry
 obtain ⟨its,r,pl,hz⟩:=I.list hq
 obtain ⟨j,h1,h2,h3,h4,h5⟩:=atI_get he
 obtain ⟨w,ew,rw'⟩:=r.get h2
 have hl:=r.length
 have hn:=line63
 have fin:EP X pins σ Q w s:=⟨z,H,I,rw',q⟩
 by_cases h0:0≤i
 ·have hj:i.toNat=j:=by
   rw [seqIndex_of h0 h5] at h1
   exact Option.some.inj h1
  exact item_listR pl.isList h0 (by omega) (by rw [hj];simpa using ew) fin hs
 ·have hj:(i + (its.toArray.size:Int)).toNat=j:=by
   rw [seqIndex_neg (by omega) h4] at h1
   rw [List.size_toArray,←hl]
   exact Option.some.inj h1
  exact subscriptTail_builtinR (x:=w) pl.isList.typeIs slot_list_getitem.lookup
   (wpAny_getItem_list_neg (Q:=fun r s'=>r=w∧EP X pins σ Q r s') pl.isList (by omega) (by rw [List.size_toArray]<;>omega) (by omega) (by rw [hj];simpa using ew) ⟨rfl,fin⟩) hs
theorem slice_bounds (lo hi:Option Int) (n:Nat):(sliceBounds lo hi none n).1=((HT.sIx n 0 lo:Nat):Int)∧(sliceBounds lo hi none n).2.1=((HT.sIx n n hi:Nat):Int)∧(sliceBounds lo hi none n).2.2=1:=by
 refine ⟨?_,?_,rfl⟩
 ·cases lo with
  | none=>simp [sliceBounds,HT.sIx]
  | some i=>
   simp only [sliceBounds,HT.sIx,Option.getD_none,show (1:Int) > 0 by decide,if_true]
   by_cases h:i < 0
   ·simp only [h,if_true]<;>omega
   ·simp only [h,if_false]<;>omega
 ·cases hi with
  | none=>simp [sliceBounds,HT.sIx]
  | some i=>
   simp only [sliceBounds,HT.sIx,Option.getD_none,show (1:Int) > 0 by decide,if_true]
   by_cases h:i < 0
   ·simp only [h,if_true]<;>omega
   ·simp only [h,if_false]<;>omega
theorem slicePick_cut (its:List Value) (lo hi:Option Int):slicePick its.toArray lo hi none=((its.drop (HT.sIx its.length 0 lo)).take (HT.sIx its.length its.length hi - HT.sIx its.length 0 lo)).toArray:=by
 obtain ⟨h1,h2,h3⟩:=slice_bounds lo hi its.toArray.size
 unfold slicePick
 rw [h1,h2,h3]
 simp only [sliceRange_one,pick_run,List.size_toArray]<;>rfl
def rSlL (K:PySem.W.Frag):V→Option Int→Option Int→Hp→VK→Prop:=fun x lo hi H Q=>∃a xs,x=.ref a∧SqL K H a xs∧∀p,H p=none→Q (.ref p) (upd H p (.lst (cutV xs lo hi)))
theorem sl_list:SlR X (rSlL X.K):=by
 intro pins s σ H x v vl vu lo hi sl Q I rx hs pl pu h
 obtain ⟨a,xs,rfl,hx,q⟩:=h
 cases rx
 obtain ⟨its,r,ht,hz⟩:=I.list hx
 have hlen:=r.length
 refine ⟨"list",_,slot_list_getitem.lookup,ht.isList.typeIs,?_⟩
 refine wpAny_getItem_list_slice ht.isList hs pl pu .none (by simp) ?_ (by rw [List.size_toArray]<;>omega)
 rw [slicePick_cut,←hlen]
 refine ⟨.ref s.heap.objs.size,_,I.laid (t':=s.toks) (o:=.lst (cutV xs lo hi)) (fun b ob q=>Heap.get?_push_of_some _ q) (Nat.le_refl _) ?_,rfl,q _ (I.hok.fresh (Nat.le_refl _))⟩
 exact ⟨Nat.le_trans (cutV_length xs lo hi) hz,_,0,(r.drop (HT.sIx xs.length 0 lo)).take (HT.sIx xs.length xs.length hi - HT.sIx xs.length 0 lo),Heap.get?_push_size _ rfl⟩
def flatV:V→Bool
 | .non=>true
 | .bl _=>true
 | .int _=>true
 | .str _=>true
 | _=>false
def eqV:V→V→Bool
 | .non,.non=>true
 | .bl a,.bl b=>a==b
 | .bl a,.int b=>(if a then 1 else 0)==b
 | .int a,.bl b=>a==(if b then 1 else 0)
 | .int a,.int b=>a==b
 | .str a,.str b=>a==b
 | _,_=>false
theorem eqAt_V {A:Around} {s:Shared} {y x:V} {u v:Value} (ry:RelV y u) (rx:RelV x v) (fy:flatV y=true) (fx:flatV x=true):SeqAt.EqAt A s u v (eqV y x):=by
 cases y with
 | non=>
  cases ry
  cases x with
  | non=>cases rx;exact SeqAt.EqAt.same _
  | bl b=>cases rx;exact SeqAt.EqAt.none_bool b
  | int b=>obtain ⟨t,rfl⟩:=rx;exact SeqAt.EqAt.none_int b t
  | str b=>obtain ⟨t,rfl⟩:=rx;exact SeqAt.EqAt.none_str b t
  | _=>exact absurd (show false=true from fx) Bool.false_ne_true
 | bl a=>
  cases ry
  cases x with
  | non=>cases rx;exact SeqAt.EqAt.bool_none a
  | bl b=>cases rx;exact SeqAt.EqAt.bool_bool a b
  | int b=>obtain ⟨t,rfl⟩:=rx;exact SeqAt.EqAt.bool_int a b t
  | str b=>obtain ⟨t,rfl⟩:=rx;exact SeqAt.EqAt.bool_str a b t
  | _=>exact absurd (show false=true from fx) Bool.false_ne_true
 | int a=>
  obtain ⟨t',rfl⟩:=ry
  cases x with
  | non=>cases rx;exact SeqAt.EqAt.int_none a t'
  | bl b=>cases rx;exact SeqAt.EqAt.int_bool a t' b
  | int b=>obtain ⟨t,rfl⟩:=rx;exact SeqAt.EqAt.int_int a t' b t
  | str b=>obtain ⟨t,rfl⟩:=rx;exact SeqAt.EqAt.int_str a t' b t
  | _=>exact absurd (show false=true from fx) Bool.false_ne_true
 | str a=>
  obtain ⟨t',rfl⟩:=ry
  cases x with
  | non=>cases rx;exact SeqAt.EqAt.str_none a t'
  | bl b=>cases rx;exact SeqAt.EqAt.str_bool a t' b
  | int b=>obtain ⟨t,rfl⟩:=rx;exact SeqAt.EqAt.str_int a t' b t
  | str b=>obtain ⟨t,rfl⟩:=rx;exact SeqAt.EqAt.str_str a t' b t
  | _=>exact absurd (show false=true from fx) Bool.false_ne_true
 | _=>exact absurd (show false=true from fy) Bool.false_ne_true
def eqU (x:V) (u:Value):Bool:=match u with
 | .none=>eqV .non x
 | .bool b=>eqV (.bl b) x
 | .int i _=>eqV (.int i) x
 | .str z _=>eqV (.str z) x
 | _=>false
theorem eqU_of {x y:V} {u:Value} (r:RelV y u) (f:flatV y=true):eqU x u=eqV y x:=by
 cases y with
 | non=>cases r;rfl
 | bl b=>cases r;rfl
 | int i=>obtain ⟨t,rfl⟩:=r;rfl
 | str z=>obtain ⟨t,rfl⟩:=r;rfl
 | _=>exact absurd (show false=true from f) Bool.false_ne_true
theorem any_eqU {x:V}:∀{xs:List V} {us:List Value},Vals xs us→xs.all flatV=true→us.any (eqU x)=xs.any fun y=>eqV y x
 | _,_,.nil,_=>rfl
 | y::xs,u::us,.cons r t,f=>by
  rw [List.all_cons,Bool.and_eq_true] at f
  rw [List.any_cons,List.any_cons,eqU_of r f.1,any_eqU t f.2]
theorem mem_eqAt {A:Around} {s:Shared} {x:V} {v:Value} (rx:RelV x v) (fx:flatV x=true):∀{xs:List V} {us:List Value},Vals xs us→xs.all flatV=true→∀u∈us,SeqAt.EqAt A s u v (eqU x u)
 | _,_,.nil,_=>fun u hu=>by cases hu
 | y::xs,u::us,.cons r t,f=>fun u' hu=>by
  rw [List.all_cons,Bool.and_eq_true] at f
  rcases List.mem_cons.mp hu with rfl | hu
  ·rw [eqU_of r f.1];exact eqAt_V r rx f.1 fx
  ·exact mem_eqAt rx fx t f.2 u' hu
def inV (x:V) (xs:List V):Bool:=xs.any fun y=>eqV y x
def rIn (K:PySem.W.Frag) (neg:Bool):R2:=fun x y H Q=>∃p xs,y=.ref p∧(SqL K H p xs∨SqT K H p xs)∧flatV x=true∧xs.all flatV=true∧Q (.bl (if neg then !inV x xs else inV x xs)) H
theorem op_in_seq:OpR X (compareOp .In) (rIn X.K false):=by
 intro pins s σ H x y v u Q I rx ry h
 obtain ⟨p,xs,rfl,hq,fx,fs,q⟩:=h
 cases ry
 rcases hq with hq | hq
 ·obtain ⟨its,r,pl,hz⟩:=I.list hq
  refine SeqAt.in_listAt (eqU x) pl.isList (fun w hw=>mem_eqAt rx fx r fs w (by simpa using hw)) ⟨.bl _,H,I,rfl,?_⟩
  rw [show its.toArray.any (eqU x)=its.any (eqU x) by simp,any_eqU r fs]
  exact q
 ·obtain ⟨its,r,pl,hz⟩:=I.tuple hq
  refine SeqAt.in_tupleAt (eqU x) pl (fun w hw=>mem_eqAt rx fx r fs w (by simpa using hw)) ⟨.bl _,H,I,rfl,?_⟩
  rw [show its.toArray.any (eqU x)=its.any (eqU x) by simp,any_eqU r fs]
  exact q
theorem op_notIn_seq:OpR X (compareOp .NotIn) (rIn X.K true):=by
 intro pins s σ H x y v u Q I rx ry h
 obtain ⟨p,xs,rfl,hq,fx,fs,q⟩:=h
 cases ry
 rcases hq with hq | hq
 ·obtain ⟨its,r,pl,hz⟩:=I.list hq
  refine SeqAt.notIn_listAt (eqU x) pl.isList (fun w hw=>mem_eqAt rx fx r fs w (by simpa using hw)) ⟨.bl _,H,I,rfl,?_⟩
  rw [show its.toArray.any (eqU x)=its.any (eqU x) by simp,any_eqU r fs]
  exact q
 ·obtain ⟨its,r,pl,hz⟩:=I.tuple hq
  refine SeqAt.notIn_tupleAt (eqU x) pl (fun w hw=>mem_eqAt rx fx r fs w (by simpa using hw)) ⟨.bl _,H,I,rfl,?_⟩
  rw [show its.toArray.any (eqU x)=its.any (eqU x) by simp,any_eqU r fs]
  exact q
theorem call_len_seq:CallR X (.builtin "len") (fun xs H Q=>∃p ys,xs=[.ref p]∧(SqL X.K H p ys∨SqT X.K H p ys)∧Q (.int ys.length) H):=by
 intro pins s σ H xs us Q I r h
 obtain ⟨p,ys,rfl,hq,q⟩:=h
 obtain ⟨u,rfl,rx⟩:=vals1 r
 cases rx
 have hn:=line63
 rcases hq with hq | hq
 ·obtain ⟨its,r',pl,hz⟩:=I.list hq
  have hlen:=r'.length
  exact Calls.call_len_list pl.isList (by simp only [List.size_toArray]<;>omega) ⟨.int ys.length,H,I.tok _,⟨s.toks + 1,by rw [List.size_toArray,hlen]⟩,q⟩
 ·obtain ⟨its,r',pl,hz⟩:=I.tuple hq
  have hlen:=r'.length
  exact len_tuple pl (by simp only [List.size_toArray]<;>omega) ⟨.int ys.length,H,I.tok _,⟨s.toks + 1,by rw [List.size_toArray,hlen]⟩,q⟩
theorem call_list_of:CallR X (.type "list") (fun xs H Q=>∃p ys,xs=[.ref p]∧(SqL X.K H p ys∨SqT X.K H p ys)∧∀l,H l=none→Q (.ref l) (upd H l (.lst ys))):=by
 intro pins s σ H xs us Q I r h
 obtain ⟨p,ys,rfl,hq,q⟩:=h
 obtain ⟨u,rfl,rx⟩:=vals1 r
 cases rx
 have fin:∀(its:List Value),Vals ys its→ys.length≤sizeLine→∀(h':Heap) (c':Nat),(∀b o',s.heap.get? b=some o'→h'.get? b=some o')→
  h'.get? s.heap.objs.size=some {cls:=.type "list",dict:=none,data:=.seq its.toArray c',slots:=#[]}→EP X pins σ Q (.ref s.heap.objs.size) {s with heap:=h'}:=fun its r' hz h' c' kp e=>
  ⟨.ref s.heap.objs.size,_,I.laid (t':=s.toks) kp (Nat.le_refl _) (show ObjOk X.prog X.w _ h' _ (.lst ys) from ⟨hz,its,c',r',e⟩),rfl,q _ (I.hok.fresh (Nat.le_refl _))⟩
 rcases hq with hq | hq
 ·obtain ⟨its,r',pl,hz⟩:=I.list hq
  have hlen:=r'.length
  obtain ⟨o,ho,hc,n,hd⟩:=pl.isList
  exact call_list_seq p (.inl rfl) ho hc hd (fun h' c' kp e=>fin its r' hz h' c' kp e) (by simp only [List.size_toArray]<;>omega)
 ·obtain ⟨its,r',pl,hz⟩:=I.tuple hq
  have hlen:=r'.length
  obtain ⟨o,ho,hc,n,hd⟩:=pl
  exact call_list_seq p (.inr rfl) ho hc hd (fun h' c' kp e=>fin its r' hz h' c' kp e) (by simp only [List.size_toArray]<;>omega)
def tyV (K:PySem.W.Frag) (T:String) (x:V) (H:Hp):Prop:=match x with
 | .str _=>T="str"
 | .int _=>T="int"
 | .ref p=>(T="list"∧∃xs,SqL K H p xs)∨(T="tuple"∧∃o,K.lookup p=some o∧o.cls=.type "tuple"∧o.dict=none)∨
  (T="dict"∧((∃kvs,H p=some (.dK kvs))∨∃kvs,H p=some (.dT kvs)))∨(T="set"∧∃S n,H p=some (.set S n))
 | _=>False
theorem tyV_is {pins:List (Addr×Obj)} {σ:St} {H:Hp} {s:Shared} {T:String} {x:V} {v:Value} (I:Inv X pins σ H s) (r:RelV x v) (ty:tyV X.K T x H):
 s.TypeIs v T∧∀a,v=.ref a→∃ob,s.heap.get? a=some ob∧ob.dict=none:=by
 cases x with
 | str z=>
  obtain ⟨t,rfl⟩:=r
  cases (show T="str" from ty)
  exact ⟨typeIs_str s z t,fun _ e=>nomatch e⟩
 | int i=>
  obtain ⟨t,rfl⟩:=r
  cases (show T="int" from ty)
  exact ⟨typeIs_int s i t,fun _ e=>nomatch e⟩
 | ref p=>
  cases r
  rcases ty with ⟨rfl,xs,hq⟩ | ⟨rfl,o,hk,hc,hd⟩ | ⟨rfl,hk⟩ | ⟨rfl,S,n,hk⟩
  ·obtain ⟨its,_,pl,_⟩:=I.list hq
   refine ⟨pl.isList.typeIs,fun a e=>?_⟩
   cases e
   obtain ⟨o,n,e,c,hd,_⟩:=pl
   exact ⟨o,e,hd⟩
  ·refine ⟨⟨o,I.kIn p o hk,hc⟩,fun a e=>?_⟩
   cases e
   exact ⟨o,I.kIn _ o hk,hd⟩
  ·have z:∃o,s.heap.get? p=some o∧o.ExactDict:=by
    rcases hk with ⟨kvs,hk⟩ | ⟨kvs,hk⟩
    ·obtain ⟨_,_,_,_,o,_,_,e,ex,_⟩:=I.hok p _ hk
     exact ⟨o,e,ex⟩
    ·obtain ⟨_,_,_,_,o,_,_,e,ex,_⟩:=I.hok p _ hk
     exact ⟨o,e,ex⟩
   obtain ⟨o,e,ex⟩:=z
   refine ⟨⟨o,e,ex.1⟩,fun a e2=>?_⟩
   cases e2
   exact ⟨o,e,ex.2.1⟩
  ·obtain ⟨o,_,_,_,e,ex,_⟩:=I.hok p _ hk
   refine ⟨⟨o,e,ex.1⟩,fun a e2=>?_⟩
   cases e2
   exact ⟨o,e,ex.2.1⟩
 | _=>exact False.elim ty
def tBM (K:PySem.W.Frag) (T:String) (r:V→List V→Hp→VK→Prop) (to:TE) (t:TA):TE:=fun σ H Q=>to σ H fun x H1=>tyV K T x H1∧t σ H1 fun xs H2=>r x xs H2 Q
variable {o e:Expr} {es:List Expr} {to:TE} {t:TA} {name:Str} {apos cpos:Pos} {T id:String} {r:V→List V→Hp→VK→Prop}
theorem pe_bm (pa:PlainAttrs T) (slot:Slot T name id) (hty:typeOf (.builtin id)=pure (.type "method_descriptor")) (hm:MtR X id r) (ho:PE X o to) (ha:PA X (e::es) t)
 (hbase:attributeBase o name X.env (eval o X.env)=eval o X.env:=by rfl)
 (hfew:((backTo cpos (starEach (e::es) X.env)).all (fun x=>!x.1)&&(backToKw cpos (keywordEach [] X.env)).all (fun x=>x.1.isSome)
  &&decide ((e::es).length + ([]:List Keyword).length + (if ([]:List Keyword).isEmpty then 0 else 1) < 30))=true:=by rfl)
 (hline:(apos.endLine==cpos.line)=true:=by rfl) (hs:starEach (e::es) X.env=(false,eval e X.env)::starEach es X.env:=by rfl) (hplain:(backTo cpos (starEach es X.env)).any (·.1)=false:=by rfl):
 PE X (.Call (.Attribute o name apos) (e::es) [] cpos) (tBM X.K T r to t):=by
 intro pins s σ H Q I h
 refine wpAny_Call_method_late hbase hfew hline rfl (thn (ho pins s σ H _ I h) fun v s1 ⟨x,H1,I1,r1,ty,q1⟩=>?_)
 obtain ⟨h1,h2⟩:=tyV_is I1 r1 ty
 refine ⟨T,id,pa,slot,hty,h1,h2,?_⟩
 have hA:=ha cpos pins s1 σ H1 _ I1 q1
 rw [hs] at hA ⊢
 refine Calls.callWith_builtin (by show (false||(backTo cpos (starEach es X.env)).any (·.1))=false;rw [hplain]<;>rfl) (Calls.evalArgs_plain ?_)
 exact thn hA fun us s2 ⟨vs,H2,I2,r2,q2⟩=>hm pins s2 σ H2 x vs v us Q I2 r1 r2 q2
end
end L2
namespace L2
open PySem PySem.Spec PyProof.Rows
def MtM (X:Cx) (id:String) (r:V→List V→Hp→VK→Prop):Prop:=
 ∀(pins:List (Addr×Obj)) (s:Shared) (σ:St) (H:Hp) (x:V) (xs:List V) (v:Value) (us:List Value) (Q:VK),Inv X pins σ H s→RelV x v→Vals xs us→r x xs H Q→
  wpAny (model X.prog X.w) X.A (call (.builtin id) (v::us)) (EP X pins σ Q) X.xe s
theorem Vals.one:∀{x:V} {us:List Value},Vals [x] us→∃u,us=[u]∧RelV x u
 | _,_,.cons r .nil=>⟨_,rfl,r⟩
theorem Vals.rep {xs:List V} {us:List Value} (h:Vals xs us):∀k:Nat,Vals (List.replicate k xs).flatten (List.replicate k us).flatten
 | 0=>.nil
 | k + 1=>by
  rw [List.replicate_succ,List.replicate_succ,List.flatten_cons,List.flatten_cons]
  exact Vals.append h (Vals.rep h k)
theorem foldl_rep (its:List Value):∀(k:Nat) (acc:List Value),
 List.foldl (fun x1 x2=>x1++x2) acc.toArray (List.replicate k its.toArray)=(acc++(List.replicate k its).flatten).toArray
 | 0,acc=>by simp
 | k + 1,acc=>by
  have e:acc.toArray++its.toArray=(acc++its).toArray:=by simp
  have e2:(acc++its)++(List.replicate k its).flatten=acc++(List.replicate (k + 1) its).flatten:=by
   rw [List.replicate_succ,List.flatten_cons,List.append_assoc]
  rw [←e2,←foldl_rep its k (acc++its),←e,List.replicate_succ,List.foldl_cons]
section
variable {X:Cx} {pins:List (Addr×Obj)} {σ:St} {H:Hp} {s:Shared} {l b:Addr} {xs ys zs:List V}
theorem Inv.lset {its its':List Value} {n:Nat} {f:Array Value→Array Value} {t':Nat} (I:Inv X pins σ H s) (hH:H l=some (.lst xs))
 (e:s.heap.get? l=some {cls:=.type "list",data:=.seq its.toArray n}) (hf:f its.toArray=its'.toArray) (hv:Vals ys its') (hz:ys.length≤sizeLine):
 Inv X pins σ (upd H l (.lst ys)) {s with heap:=s.heap.update l (Obj.mapSeq f),toks:=t'}:=by
 have q:=PySem.IsL.update e f
 rw [hf] at q
 refine I.write (x:=l) (e:=l) (by rw [hH];exact trivial) (.inl rfl) (fun b' u hb hu=>(Heap.get?_update_other s.heap (Obj.mapSeq f) (Ne.symm hb)).trans hu) ⟨_,q⟩ ?_
 exact ⟨hz,its',_,hv,q⟩
theorem Inv.lnew {its:List Value} {t':Nat} (I:Inv X pins σ H s) (hv:Vals ys its) (hz:ys.length≤sizeLine):
 Inv X pins σ (upd H s.heap.objs.size (.lst ys)) {s with heap:=s.heap.push {cls:=.type "list",data:=.seq its.toArray},toks:=t'}:=
 I.laid (fun _ _ q=>Heap.get?_push_of_some _ q) (Nat.le_refl _) ⟨hz,its,0,hv,Heap.get?_push_size _ rfl⟩
theorem Inv.fresh (I:Inv X pins σ H s):H s.heap.objs.size=none:=I.hok.fresh (Nat.le_refl _)
theorem Inv.lstM (I:Inv X pins σ H s) (hH:H l=some (.lst xs)):xs.length≤sizeLine∧∃(its:List Value) (n:Nat),Vals xs its∧xs.length=its.length∧s.heap.get? l=some {cls:=.type "list",data:=.seq its.toArray n}:=by
 obtain ⟨z,its,n,r,e⟩:=I.hok l _ hH
 exact ⟨z,its,n,r,r.length,e⟩
theorem notLongL {n:Nat} (h:n≤sizeLine):Builtin.List.listTooLong n=false:=by
 unfold Builtin.List.listTooLong
 exact decide_eq_false (by omega)
end
section
variable {X:Cx}
def rAppend:V→List V→Hp→VK→Prop:=fun x vs H Q=>∃l xs y,x=.ref l∧vs=[y]∧H l=some (.lst xs)∧xs.length < sizeLine∧Q .non (upd H l (.lst (xs++[y])))
theorem mt_append:MtM X "list.append" rAppend:=by
 intro pins s σ H x vs v us Q I rx rv h
 obtain ⟨l,xs,y,rfl,rfl,hH,hz,q⟩:=h
 cases rx
 obtain ⟨u,rfl,ru⟩:=rv.one
 obtain ⟨z,its,n,r,hl,e⟩:=I.lstM hH
 refine call_meets F.slot_list_append ⟨_,e,rfl⟩ F.entry_list_append (F.args_list_append_2 _ _) (PySem.list_append l its.toArray n u (by rw [List.size_toArray];omega)) ⟨e,?_⟩
 refine ⟨.non,_,I.lset (its':=its++[u]) hH e (by simp) (r.append (.cons ru .nil)) ?_,rfl,q⟩
 rw [List.length_append,List.length_singleton]
 omega
def rExtend:V→List V→Hp→VK→Prop:=fun x vs H Q=>∃l b xs zs,x=.ref l∧vs=[.ref b]∧H l=some (.lst xs)∧H b=some (.lst zs)∧xs.length + zs.length≤sizeLine∧Q .non (upd H l (.lst (xs++zs)))
theorem mt_extend:MtM X "list.extend" rExtend:=by
 intro pins s σ H x vs v us Q I rx rv h
 obtain ⟨l,b,xs,zs,rfl,rfl,hH,hB,hz,q⟩:=h
 cases rx
 obtain ⟨u,rfl,ru⟩:=rv.one
 cases ru
 obtain ⟨z,its,n,r,hl,e⟩:=I.lstM hH
 obtain ⟨z2,its2,n2,r2,hl2,e2⟩:=I.lstM hB
 have hsz:its.toArray.size + its2.toArray.size≤sizeLine:=by rw [List.size_toArray,List.size_toArray];omega
 have hlong:¬(!its.toArray.isEmpty&&Builtin.List.listTooLong (its.toArray.size + its2.toArray.size))=true:=by
  rw [notLongL hsz,Bool.and_false]
  exact Bool.false_ne_true
 refine call_meets F.slot_list_extend ⟨_,e,rfl⟩ F.entry_list_extend (F.args_list_extend_2 _ _)
  (AutoSeq1.list_extend_list_list_0 l its.toArray n b its2.toArray n2 hlong (by rw [List.size_toArray];omega) (by omega)) ⟨e,e2,?_⟩
 refine ⟨.non,_,I.lset (its':=its++its2) hH e (by simp) (r.append r2) ?_,rfl,q⟩
 rw [List.length_append]
 omega
def rCat:R2:=fun x y H Q=>∃l b xs zs,x=.ref l∧y=.ref b∧H l=some (.lst xs)∧H b=some (.lst zs)∧xs.length + zs.length≤sizeLine∧∀p,H p=none→Q (.ref p) (upd H p (.lst (xs++zs)))
theorem op_cat:OpR X (binaryOp .Add) rCat:=by
 intro pins s σ H x y v u Q I rx ry h
 obtain ⟨l,b,xs,zs,rfl,rfl,hH,hB,hz,q⟩:=h
 cases rx
 cases ry
 obtain ⟨z,its,n,r,hl,e⟩:=I.lstM hH
 obtain ⟨z2,its2,n2,r2,hl2,e2⟩:=I.lstM hB
 refine PySem.P.add_list e e2 ?_ (by rw [List.size_toArray,List.size_toArray];omega)
 have ea:its.toArray++its2.toArray=(its++its2).toArray:=by simp
 rw [ea]
 exact ⟨.ref _,_,I.lnew (t':=s.toks) (r.append r2) (by rw [List.length_append];omega),rfl,q _ I.fresh⟩
def rRep:R2:=fun x y H Q=>∃l k xs,x=.ref l∧y=.int k∧H l=some (.lst xs)∧-(2 ^ 63)≤k∧k < 2 ^ 63∧xs.length * k.toNat≤sizeLine∧
 ∀p,H p=none→Q (.ref p) (upd H p (.lst (List.replicate k.toNat xs).flatten))
theorem len_rep {α:Type} (xs:List α) (k:Nat):(List.replicate k xs).flatten.length=k * xs.length:=by
 induction k with
 | zero=>simp
 | succ k ih=>rw [List.replicate_succ,List.flatten_cons,List.length_append,ih,Nat.succ_mul,Nat.add_comm]
theorem op_rep:OpR X (binaryOp .Mult) rRep:=by
 intro pins s σ H x y v u Q I rx ry h
 obtain ⟨l,k,xs,rfl,rfl,hH,h1,h2,hz,q⟩:=h
 cases rx
 obtain ⟨t,rfl⟩:=ry
 obtain ⟨z,its,n,r,hl,e⟩:=I.lstM hH
 have hlen:its.toArray.size * k.toNat≤sizeLine:=by rw [List.size_toArray,←hl];exact hz
 have hcap:¬its.toArray.size * k.toNat > (2 ^ 63 - 1) / 8:=by
  have:(sizeLine:Nat)≤(2 ^ 63 - 1) / 8:=by decide
  omega
 have hfit:¬(!Builtin.List.listFitsIndex k)=true:=by
  rw [fitsIndex_both h1 h2]
  exact Bool.false_ne_true
 have hlong:¬Builtin.List.listTooLong (its.toArray.size * k.toNat)=true:=by
  rw [notLongL hlen]
  exact Bool.false_ne_true
 have hnew:List.foldl (fun x1 x2=>x1++x2) #[] (List.replicate (if its.toArray.isEmpty=true then 0 else k.toNat) its.toArray)=(List.replicate k.toNat its).flatten.toArray:=by
  have f0:∀m:Nat,List.foldl (fun x1 x2=>x1++x2) #[] (List.replicate m its.toArray)=(List.replicate m its).flatten.toArray:=fun m=>by
   have:=foldl_rep its m []
   rw [List.nil_append] at this
   exact this
  rw [f0]
  cases its with
  | nil=>simp
  | cons a r'=>rw [if_neg (by simp)]
 refine wpAny_binaryOp_repeat_ref (T:="list") (U:="int") (by decide) ⟨_,e,rfl⟩ (fun s'=>typeIs_int s' k t) noFill_list_mul F.fills_int_mul F.slot_int_rmul repeat_list F.slot_int_index.lookup
  (call_meets F.slot_int_rmul (typeIs_int s k t) F.entry_int_rmul (F.args_int_rmul_2 _ _) (int___rmul___int_list k t l its.toArray n)
   ⟨e,rfl,⟨_,e,rfl⟩,call_meets F.slot_list_mul ⟨_,e,rfl⟩ F.entry_list_mul (F.args_list_mul_2 _ _) (AutoListH.list___mul___list_int_3 l its.toArray n k t hfit hcap hlong) ⟨e,?_⟩⟩)
 rw [hnew]
 exact ⟨.ref _,_,I.lnew (t':=s.toks) (r.rep k.toNat) (by rw [len_rep,Nat.mul_comm];exact hz),rfl,q _ I.fresh⟩
end
section
variable {prog:Program} {w:World} {A:Around} {E:Value→Shared→Prop} {s:Shared}
set_option maxRecDepth 100000 in
end
section
variable {X:Cx}
end
end L2
namespace L2
open PySem PySem.Spec PyProof.Rows
theorem Vals.ref1 {a:Addr} {us:List Value} (r:Vals [V.ref a] us):us=[Value.ref a]:=by
 cases r with
 | cons r t=>
  cases t
  cases r
  rfl
section
variable {prog:Program} {w:World} {A:Around} {E:Value→Shared→Prop} {s:Shared} {l:Addr} {its:List Value} {ns:List Int} {Q:Value→Shared→Prop}
end
section
variable {X:Cx}
end
section
variable {X:Cx}
end
section
variable {X:Cx}
end
theorem iter_any {prog:Program} {w:World} {A:Around} {E:Value→Shared→Prop} {s:Shared} {l:Addr} {items:Array Value} {Q:Value→Shared→Prop} (hl:s.heap.IsList l items)
 (h:∀s₂:Shared,s₂={s with heap:=s.heap.push {cls:=.type "list_iterator",data:=.fields #[.ref l,.int 0 0]}}→
  (s₂.heap.IsListIter s.heap.objs.size l 0∧s₂.heap.IsList l items)→l≠s.heap.objs.size→Q (.ref s.heap.objs.size) s₂):wpAny (model prog w) A (pyIter (.ref l)) Q E s:=by
 have hlt:l < s.heap.objs.size:=by obtain ⟨_,e,_⟩:=hl;exact Heap.lt_size e
 exact wpAny_pyIter_list hl (h _ rfl ⟨⟨_,Heap.get?_push_size _ rfl,rfl,rfl⟩,hl.push _⟩ (Nat.ne_of_lt hlt))
section
variable {X:Cx}
end
mutual
inductive Dp (K:PySem.W.Frag) (H:Hp):V→PyData→Prop
 | non:Dp K H .non .none
 | bl (b:Bool):Dp K H (.bl b) (.bool b)
 | int (i:Int):Dp K H (.int i) (.int i)
 | str (x:Str):Dp K H (.str x) (.str x)
 | lst {a:Addr} {xs:List V} {ds:List PyData}:SqL K H a xs→DpAll K H xs ds→Dp K H (.ref a) (.list ds)
 | tup {a:Addr} {xs:List V} {ds:List PyData}:SqT K H a xs→DpAll K H xs ds→Dp K H (.ref a) (.tuple ds)
inductive DpAll (K:PySem.W.Frag) (H:Hp):List V→List PyData→Prop
 | nil:DpAll K H [] []
 | cons {v:V} {vs:List V} {d:PyData} {ds:List PyData}:Dp K H v d→DpAll K H vs ds→DpAll K H (v::vs) (d::ds)
end
section
variable {X:Cx} {pins:List (Addr×Obj)} {σ:St} {H:Hp} {s:Shared}
mutual
theorem Dp.reads (I:Inv X pins σ H s):∀(d:PyData) (v:V) (u:Value),Dp X.K H v d→RelV v u→∃as,Reads s.heap u d as
 | .none,_,_,h,r=>by
  cases h
  cases r
  exact ⟨_,Reads.none⟩
 | .bool b,_,_,h,r=>by
  cases h
  cases r
  exact ⟨_,Reads.bool b⟩
 | .int i,_,_,h,r=>by
  cases h
  obtain ⟨t,rfl⟩:=r
  exact ⟨_,Reads.int i t⟩
 | .str x,_,_,h,r=>by
  cases h
  obtain ⟨t,rfl⟩:=r
  exact ⟨_,Reads.str x t⟩
 | .list ds,_,_,h,r=>by
  cases h with
  | lst hs ha=>
   cases r
   obtain ⟨its,rv,⟨o,n,ho,hc,_,hd⟩,_⟩:=I.list hs
   obtain ⟨as,hr⟩:=Dp.readsAll I ds _ its ha rv
   exact ⟨_,Reads.list ho hc hd hr⟩
 | .tuple ds,_,_,h,r=>by
  cases h with
  | tup hs ha=>
   cases r
   obtain ⟨its,rv,⟨o,ho,hc,n,hd⟩,_⟩:=I.tuple hs
   obtain ⟨as,hr⟩:=Dp.readsAll I ds _ its ha rv
   exact ⟨_,Reads.tuple ho hc hd hr⟩
 | .dict _,_,_,h,_=>by cases h
theorem Dp.readsAll (I:Inv X pins σ H s):∀(ds:List PyData) (vs:List V) (us:List Value),DpAll X.K H vs ds→Vals vs us→∃as,ReadsAll s.heap us ds as
 | [],_,_,h,r=>by
  cases h
  cases r
  exact ⟨_,ReadsAll.nil⟩
 | d::ds,_,_,h,r=>by
  cases h with
  | cons h1 h2=>
   cases r with
   | cons r1 r2=>
    obtain ⟨as,q1⟩:=Dp.reads I d _ _ h1 r1
    obtain ⟨bs,q2⟩:=Dp.readsAll I ds _ _ h2 r2
    exact ⟨_,ReadsAll.cons q1 q2⟩
end
end
section
variable {X:Cx}
def rEqD (K:PySem.W.Frag):R2:=fun x y H Q=>∃d e,Dp K H x d∧Dp K H y e∧SeqAt.shaped d=true∧SeqAt.shaped e=true∧Q (.bl (PyData.eqv d e)) H
theorem op_eqD (hu:X.A.units + 64 < cLine):OpR X (compareOp .Eq) (rEqD X.K):=by
 intro pins s σ H x y v u Q I rx ry h
 obtain ⟨d,e,hd,he,sd,se,q⟩:=h
 obtain ⟨as,r1⟩:=Dp.reads I d x v hd rx
 obtain ⟨bs,r2⟩:=Dp.reads I e y u he ry
 exact SeqAt.compareEq_shaped r1 r2 sd se hu ⟨.bl _,H,I,rfl,q⟩
end
end L2
namespace L2
open PySem PySem.Spec PyProof.Rows
abbrev CellAt (h:Heap) (c:Addr) (v:Option Value):Prop:=h.IsCell c v
def relS (scope sc:Scope):Scope:=
 {scope with names:=scope.names.map fun (n,k)=>if (k==.free&&sc.kind==.function&&sc.names.lookup n==some .cell) then (n,.cell) else (n,k)}
def cloFrom (cells:List (Str×Addr)):List (Str×NameKind)→List (Str×Addr)→List (Str×Addr)
 | [],acc=>acc
 | (n,k)::r,acc=>if k==.free then cloFrom cells r ((n,(cells.lookup n).getD 0)::acc) else cloFrom cells r acc
theorem closure_loop (env:Env) (f:Str×NameKind→List (Str×Addr)→Sem (ForInStep (List (Str×Addr))))
 (hf:∀n k c,f (n,k) c=if k==.free then (do let a ←cellOf env n;pure (.yield ((n,a)::c))) else pure (.yield c)):
 ∀(names:List (Str×NameKind)) (acc:List (Str×Addr)),(∀y∈names,y.2=.free→∃c,env.cells.lookup y.1=some c)→forIn names acc f=pure (cloFrom env.cells names acc)
 | [],acc,_=>by rw [List.forIn_nil];rfl
 | (n,k)::r,acc,h=>by
  rw [List.forIn_cons,hf]
  have ih:=fun acc=>closure_loop env f hf r acc fun y hy=>h y (List.mem_cons_of_mem _ hy)
  unfold cloFrom
  by_cases hk:(k==NameKind.free)=true
  ·rw [if_pos hk,if_pos hk]
   obtain ⟨c,hc⟩:=h (n,k) List.mem_cons_self (by simpa using hk)
   have e:cellOf env n=pure c:=by unfold cellOf;rw [hc]
   rw [e]
   have e2:(env.cells.lookup n).getD 0=c:=by rw [hc];rfl
   rw [e2]
   exact ih _
  ·rw [if_neg hk,if_neg hk]
   exact ih _
theorem closure_ok {scope:Scope} {env:Env} (h:∀y∈scope.names,y.2=.free→∃c,env.cells.lookup y.1=some c):closureFor scope env=pure (cloFrom env.cells scope.names []):=by
 simp only [closureFor]
 rw [closure_loop env _ (fun n k c=>rfl) scope.names [] h]
 rfl
theorem mem_lookup {α:Type}:∀{l:List (Str×α)} {n:Str} {c:α},(n,c)∈l→∃c',l.lookup n=some c'
 | (k,v)::r,n,c,h=>by
  rw [List.lookup_cons]
  cases hb:n==k with
  | true=>exact ⟨_,rfl⟩
  | false=>
   rcases List.mem_cons.mp h with e | h
   ·cases e;simp at hb
   ·exact mem_lookup h
theorem cloFrom_mem {cells:List (Str×Addr)}:∀{names:List (Str×NameKind)} {acc:List (Str×Addr)} {n:Str} {c:Addr},(n,c)∈cloFrom cells names acc→(n,c)∈acc∨((n,.free)∈names∧c=(cells.lookup n).getD 0)
 | [],_,_,_,h=>.inl h
 | (m,k)::r,acc,n,c,h=>by
  unfold cloFrom at h
  split at h
  ·rename_i hk
   have hk:k=.free:=by simpa using hk
   rcases cloFrom_mem h with h | ⟨h1,h2⟩
   ·rcases List.mem_cons.mp h with e | h
    ·cases e;exact .inr ⟨hk▸List.mem_cons_self,rfl⟩
    ·exact .inl h
   ·exact .inr ⟨List.mem_cons_of_mem _ h1,h2⟩
  ·rcases cloFrom_mem h with h | ⟨h1,h2⟩
   ·exact .inl h
   ·exact .inr ⟨List.mem_cons_of_mem _ h1,h2⟩
theorem cloFrom_acc {cells:List (Str×Addr)}:∀{names:List (Str×NameKind)} {acc:List (Str×Addr)} {p:Str×Addr},p∈acc→p∈cloFrom cells names acc
 | [],_,_,h=>h
 | (m,k)::r,acc,p,h=>by
  unfold cloFrom
  split
  ·exact cloFrom_acc (List.mem_cons_of_mem _ h)
  ·exact cloFrom_acc h
theorem cloFrom_has {cells:List (Str×Addr)}:∀{names:List (Str×NameKind)} {acc:List (Str×Addr)} {n:Str},(n,.free)∈names→(n,(cells.lookup n).getD 0)∈cloFrom cells names acc
 | (m,k)::r,acc,n,h=>by
  unfold cloFrom
  rcases List.mem_cons.mp h with e | h
  ·cases e
   exact cloFrom_acc List.mem_cons_self
  ·split
   ·exact cloFrom_has h
   ·exact cloFrom_has h
theorem cells_mem:∀{names:List (Str×NameKind)} {h:Heap} {acc:List (Str×Addr)} {x:Str} {c:Addr},(x,c)∈cellsFrom h.objs.size names acc→
 (x,c)∈acc∨((x,.cell)∈names∧h.objs.size≤c∧CellAt (pushCells h names) c none)
 | [],_,_,_,_,h=>.inl h
 | (n,k)::r,h,acc,x,c,hm=>by
  unfold cellsFrom at hm
  unfold pushCells
  split at hm
  ·rename_i hk
   rw [if_pos hk]
   have hk:k=.cell:=by simpa using hk
   rw [←Heap.size_push h {cls:=.type "cell",data:=.cell none}] at hm
   rcases cells_mem hm with hm | ⟨h1,h2,h3⟩
   ·rcases List.mem_cons.mp hm with e | hm
    ·cases e
     exact .inr ⟨hk▸List.mem_cons_self,Nat.le_refl _,_,pushCells_keeps r _ _ _ (Heap.get?_push_size _ rfl),rfl⟩
    ·exact .inl hm
   ·rw [Heap.size_push] at h2
    exact .inr ⟨List.mem_cons_of_mem _ h1,Nat.le_of_succ_le h2,h3⟩
  ·rename_i hk
   rw [if_neg hk]
   rcases cells_mem hm with hm | ⟨h1,h2,h3⟩
   ·exact .inl hm
   ·exact .inr ⟨List.mem_cons_of_mem _ h1,h2,h3⟩
theorem cells_acc:∀{names:List (Str×NameKind)} {n:Nat} {acc:List (Str×Addr)} {p:Str×Addr},p∈acc→p∈cellsFrom n names acc
 | [],_,_,_,h=>h
 | (m,k)::r,n,acc,p,h=>by
  unfold cellsFrom
  split
  ·exact cells_acc (List.mem_cons_of_mem _ h)
  ·exact cells_acc h
theorem cells_has:∀{names:List (Str×NameKind)} {n:Nat} {acc:List (Str×Addr)} {x:Str},(x,.cell)∈names→∃c,(x,c)∈cellsFrom n names acc
 | (m,k)::r,n,acc,x,h=>by
  unfold cellsFrom
  rcases List.mem_cons.mp h with e | h
  ·cases e
   exact ⟨n,cells_acc List.mem_cons_self⟩
  ·split
   ·exact cells_has h
   ·exact cells_has h
theorem cells_inj:∀{names:List (Str×NameKind)} {h:Heap} {acc:List (Str×Addr)} {x y:Str} {c:Addr},(∀p∈acc,p.2 < h.objs.size)→(∀x y c,(x,c)∈acc→(y,c)∈acc→x=y)→
 (x,c)∈cellsFrom h.objs.size names acc→(y,c)∈cellsFrom h.objs.size names acc→x=y
 | [],_,_,_,_,_,_,hi,h1,h2=>hi _ _ _ h1 h2
 | (n,k)::r,h,acc,x,y,c,hl,hi,h1,h2=>by
  unfold cellsFrom at h1 h2
  split at h1
  ·rename_i hk
   rw [if_pos hk] at h2
   rw [←Heap.size_push h {cls:=.type "cell",data:=.cell none}] at h1 h2
   refine cells_inj (h:=h.push _) (fun p hp=>?_) (fun x y c a b=>?_) h1 h2
   ·rw [Heap.size_push]
    rcases List.mem_cons.mp hp with rfl | hp
    ·exact Nat.lt_succ_self _
    ·exact Nat.lt_succ_of_lt (hl p hp)
   ·rcases List.mem_cons.mp a with e | a<;>rcases List.mem_cons.mp b with e' | b
    ·cases e;cases e';rfl
    ·cases e;exact absurd (hl _ b) (Nat.lt_irrefl _)
    ·cases e';exact absurd (hl _ a) (Nat.lt_irrefl _)
    ·exact hi _ _ _ a b
  ·rename_i hk
   rw [if_neg hk] at h2
   exact cells_inj hl hi h1 h2
theorem newEnv_comp {M:Model} {A:Around} {E:Value→Shared→Prop} {s:Shared} {scope:Scope} {globals:Addr} {closure:List (Str×Addr)} {qual:Str} {func:Option Addr} {code:Value} {around:Env} {builtins:Addr} {Q:Env→Shared→Prop}
 (h:Q (newEnv scope s.heap.objs.size globals (cellsFrom (s.heap.objs.size + 1) scope.names closure) qual func code (some around) builtins)
  {s with heap:=pushCells (s.heap.push {cls:=.type "dict",data:=.dict #[]}) scope.names}):
 wpAny M A (newFunctionEnv scope globals closure [] qual func code (some around) builtins) Q E s:=by
 simp only [newFunctionEnv,Option.isSome_some,if_true]
 refine wpAny_bind (wpAny_alloc ?_)
 refine wpAny_bind (wpAny_layCells _ (fun n k c=>rfl) scope.names closure _ _ ?_)
 rw [show ({s with heap:=s.heap.push {cls:=.type "dict",data:=.dict #[]}}:Shared).heap.objs.size=s.heap.objs.size + 1 from Heap.size_push ..]
 rw [List.forIn_nil]
 exact wpAny_bind (wpAny_pure (wpAny_pure h))
theorem lookup_relS {sc:Scope}:∀{names:List (Str×NameKind)} {x:Str} {k:NameKind},
 (names.map fun (n,k)=>if (k==NameKind.free&&sc.kind==.function&&sc.names.lookup n==some .cell) then (n,NameKind.cell) else (n,k)).lookup x=some k→
 ∃k',names.lookup x=some k'∧(k=k'∨(k'=.free∧k=.cell))
 | [],_,_,h=>by simp at h
 | (n,k₀)::r,x,k,h=>by
  have ih:=@lookup_relS sc r x k
  have h':List.lookup x ((if (k₀==NameKind.free&&sc.kind==.function&&sc.names.lookup n==some .cell)=true then (n,NameKind.cell) else (n,k₀))::(r.map _))=some k:=h
  cases hx:x==n with
  | true=>
   simp only [List.lookup_cons,hx]
   by_cases hc:(k₀==NameKind.free&&sc.kind==.function&&sc.names.lookup n==some .cell)=true
   ·rw [if_pos hc] at h'
    simp only [List.lookup_cons,hx] at h'
    cases h'
    simp only [Bool.and_eq_true,beq_iff_eq] at hc
    exact ⟨k₀,rfl,.inr ⟨hc.1.1,rfl⟩⟩
   ·rw [if_neg hc] at h'
    simp only [List.lookup_cons,hx] at h'
    cases h'
    exact ⟨_,rfl,.inl rfl⟩
  | false=>
   simp only [List.lookup_cons,hx]
   by_cases hc:(k₀==NameKind.free&&sc.kind==.function&&sc.names.lookup n==some .cell)=true
   ·rw [if_pos hc] at h'
    simp only [List.lookup_cons,hx] at h'
    exact ih h'
   ·rw [if_neg hc] at h'
    simp only [List.lookup_cons,hx] at h'
    exact ih h'
structure BlkOk (N:List Str) (sc scope:Scope) (own:List (Str×Nat)):Prop where
 kind:scope.kind=.function
 uniq:∀y∈scope.names,scope.names.lookup y.1=some y.2
 ix:∀p∈own,N[p.2]?=some p.1
 free:∀y∈scope.names,y.2=.free→sc.names.lookup y.1=some .cell∨sc.names.lookup y.1=some .free
 own:∀y∈scope.names,y.2=.local∨y.2=.cell→y.1∈own.map (·.1)∨y.1 ∉ N
def wipe (σ:St):List Nat→St
 | []=>σ
 | v::vs=>(wipe σ vs).set v none
theorem wipe_length (σ:St):∀vs:List Nat,(wipe σ vs).length=σ.length
 | []=>rfl
 | v::vs=>by unfold wipe;rw [List.length_set,wipe_length σ vs]
theorem wipe_some {σ:St} {i:Nat} {x:V}:∀{vs:List Nat},(wipe σ vs)[i]?=some (some x)→σ[i]?=some (some x)∧i ∉ vs
 | [],h=>⟨h,by simp⟩
 | v::vs,h=>by
  unfold wipe at h
  by_cases hi:v=i
  ·subst hi
   by_cases hv:v < (wipe σ vs).length
   ·rw [List.getElem?_set_self hv] at h;cases h
   ·rw [List.getElem?_eq_none (by simpa using hv)] at h;cases h
  ·rw [List.getElem?_set_ne hi] at h
   obtain ⟨h1,h2⟩:=wipe_some h
   exact ⟨h1,by simp only [List.mem_cons,not_or];exact ⟨fun e=>hi e.symm,h2⟩⟩
abbrev Cx.blk (X:Cx) (s:Shared) (H:Hp) (scope:Scope) (cenv:Env) (fp:List Addr):Cx:={X with s_0:=s,H_0:=H,env:=cenv,outer:=X.stack,ex:=fp,fn:=fun x=>scope.names.lookup x==some .cell,pn:=[],xe:=fun _ _=>False}
section
variable {X:Cx} {pins:List (Addr×Obj)} {σ:St} {H:Hp} {s:Shared}
theorem block_start {scope:Scope} {own:List (Str×Nat)} {fp:List Addr} (I:Inv X pins σ H s) (ok:BlkOk X.N X.env.scope scope own) (hN:X.N.Nodup) (hfp:∀b∈fp,FpOk X pins H b∧b < s.heap.objs.size):
 Inv (X.blk s H scope (compEnvC scope (cellsFrom (s.heap.objs.size + 1) scope.names (cloFrom X.env.cells scope.names [])) s.heap.objs.size X.env) fp) [] (wipe σ (own.map (·.2))) H {s with heap:=pushCells (s.heap.push {cls:=.type "dict",data:=.dict #[]}) scope.names}:=by
 have hfree:∀y∈scope.names,y.2=.free→∃c,X.env.cells.lookup y.1=some c:=fun y hy e=>by
  rcases ok.free y hy e with k | k
  ·exact I.ok.has _ (.inl k)
  ·exact I.ok.has _ (.inr k)
 generalize hcenv:compEnvC scope (cellsFrom (s.heap.objs.size + 1) scope.names (cloFrom X.env.cells scope.names [])) s.heap.objs.size X.env=cenv
 have kp:∀b o,s.heap.get? b=some o→(pushCells (s.heap.push {cls:=.type "dict",data:=.dict #[]}) scope.names).get? b=some o:=fun b o e=>pushCells_keeps _ _ _ _ (Heap.get?_push_of_some _ e)
 have hL:cenv.locals=s.heap.objs.size:=by rw [←hcenv];rfl
 have hcl:cenv.cells=cellsFrom (s.heap.objs.size + 1) scope.names (cloFrom X.env.cells scope.names []):=by rw [←hcenv];rfl
 have hsc:cenv.scope=relS scope X.env.scope:=by rw [←hcenv];rfl
 rw [←Heap.size_push s.heap {cls:=.type "dict",data:=.dict #[]}] at hcl
 have cm:∀{y c},(y,c)∈cloFrom X.env.cells scope.names []→X.env.cells.lookup y=some c∧c < s.heap.objs.size:=fun {y c} hm=>by
  rcases cloFrom_mem hm with hm | ⟨h1,rfl⟩
  ·cases hm
  ·obtain ⟨c,hc⟩:=hfree _ h1 rfl
   rw [hc]
   obtain ⟨w,z⟩:=I.cell _ _ hc
   exact ⟨rfl,z.lt⟩
 have mem:∀{y c},cenv.cells.lookup y=some c→(X.env.cells.lookup y=some c∧c < s.heap.objs.size)∨(s.heap.objs.size + 1≤c∧CellAt (pushCells (s.heap.push {cls:=.type "dict",data:=.dict #[]}) scope.names) c none):=fun {y c} e=>by
  rw [hcl] at e
  rcases cells_mem (PySem.mem_of_lookup e) with hm | ⟨_,h2,h3⟩
  ·exact .inl (cm hm)
  ·rw [Heap.size_push] at h2;exact .inr ⟨h2,h3⟩
 have look:∀{y},scope.names.lookup y=some .free→∃c,cenv.cells.lookup y=some c∧X.env.cells.lookup y=some c:=fun {y} hl=>by
  have hy:(y,NameKind.free)∈scope.names:=PySem.mem_of_lookup hl
  obtain ⟨c',e'⟩:=mem_lookup (cells_acc (names:=scope.names) (n:=(s.heap.push {cls:=.type "dict",data:=.dict #[]}).objs.size) (cloFrom_has (cells:=X.env.cells) (acc:=[]) hy))
  rw [←hcl] at e'
  refine ⟨c',e',?_⟩
  rw [hcl] at e'
  rcases cells_mem (PySem.mem_of_lookup e') with hm | ⟨h1,_,_⟩
  ·exact (cm hm).1
  ·have:=ok.uniq _ h1
   rw [hl] at this;cases this
 have okB:(X.blk s H scope cenv fp).Ok:=by
  refine ⟨I.ok.mod,by show cenv.scope.kind=_;rw [hsc];exact ok.kind,by show cenv.globals=_;rw [←hcenv];exact I.ok.glob,by show cenv.builtins=_;rw [←hcenv];exact I.ok.blt,by show s.heap.objs.size≤cenv.locals;rw [hL];exact Nat.le_refl _,
   fun y z c e1 e2=>?_,fun y hy=>?_,fun y c z e=>?_,I.ok.hd,I.ok.frames,.inl rfl,fun b hb=>⟨?_,fun y c e z=>?_⟩,I.bs,Nat.le_trans I.ok.bsz I.sz,fun b o e hb=>?_,fun b hb z=>?_,I.stack,I.stkFree⟩
  ·have e1:cenv.cells.lookup y=some c:=e1
   have e2:cenv.cells.lookup z=some c:=e2
   rw [hcl] at e1 e2
   refine cells_inj (fun p hp=>?_) (fun y z c a b=>I.ok.inj y z c (cm a).1 (cm b).1) (PySem.mem_of_lookup e1) (PySem.mem_of_lookup e2)
   rw [Heap.size_push]
   exact Nat.lt_succ_of_lt (cm (y:=p.1) (c:=p.2) hp).2
  ·show ∃c,cenv.cells.lookup y=some c
   have key:∀k,cenv.kindOf y=some k→(k=.cell∨k=.free)→∃c,cenv.cells.lookup y=some c:=fun k hk hk'=>by
    unfold Env.kindOf at hk
    rw [hsc] at hk
    obtain ⟨k',e,r⟩:=lookup_relS hk
    have:k'=.cell∨k'=.free:=by
     rcases r with rfl | ⟨rfl,_⟩
     ·exact hk'
     ·exact .inr rfl
    rcases this with rfl | rfl
    ·obtain ⟨c,hm⟩:=cells_has (n:=(s.heap.push {cls:=.type "dict",data:=.dict #[]}).objs.size) (acc:=cloFrom X.env.cells scope.names []) (PySem.mem_of_lookup e)
     obtain ⟨c',e'⟩:=mem_lookup hm
     exact ⟨c',by rw [hcl];exact e'⟩
    ·obtain ⟨c,h1,_⟩:=look e
     exact ⟨c,h1⟩
   rcases hy with hy | hy
   ·exact key _ hy (.inl rfl)
   ·exact key _ hy (.inr rfl)
  ·have z:(scope.names.lookup y==some NameKind.cell)=true:=z
   have z:scope.names.lookup y=some .cell:=by simpa using z
   have e:cenv.cells.lookup y=some c:=e
   rw [hcl] at e
   rcases cells_mem (PySem.mem_of_lookup e) with hm | ⟨_,h2,_⟩
   ·rcases cloFrom_mem hm with hm | ⟨h1,_⟩
    ·cases hm
    ·have q:=ok.uniq _ h1
     rw [z] at q;cases q
   ·rw [Heap.size_push] at h2
    exact Nat.le_of_succ_le h2
  ·show b≠cenv.locals
   rw [hL];exact Nat.ne_of_lt (hfp b hb).2
  ·have e:cenv.cells.lookup y=some c:=e
   rcases mem e with ⟨h1,_⟩ | ⟨h1,_⟩
   ·exact (hfp b hb).1.2.2.2.2.1 y c h1 z
   ·have h2:s.heap.objs.size + 1≤b:=by rw [←z];exact h1
    exact absurd (Nat.lt_of_lt_of_le (hfp b hb).2 (Nat.le_of_succ_le h2)) (Nat.lt_irrefl _)
  ·rcases (hfp b hb).1.2.2.2.1 with z | z
   ·exact I.ok.noex b o e z
   ·exact absurd (Nat.lt_of_lt_of_le (Heap.lt_size e) (Nat.le_trans I.ok.bsz z)) (Nat.lt_irrefl _)
  ·rcases List.mem_cons.mp (I.stkSub b z) with z | z
   ·exact (hfp b hb).1.2.1 z
   ·exact (hfp b hb).1.2.2.1 z
 refine ⟨okB,rfl,I.bare,Un.kept kp,⟨fun _=>none,?_,fun i y av e1 e2 e3=>?_⟩,fun y c e=>?_,?_,fun y c e=>?_,fun p hp=>?_,I.hok.kept kp,by rw [wipe_length];exact I.len⟩
 ·show Heap.Ns _ cenv.locals _
  rw [hL]
  exact Heap.Ns.keeps (Heap.Ns.new ..) fun b o e=>pushCells_keeps _ _ _ _ e
 ·obtain ⟨e2,hne⟩:=wipe_some e2
  have hfr:scope.names.lookup y=some .free∧(cenv.kindOf y=some .cell∨cenv.kindOf y=some .free):=by
   have key:∀k,cenv.scope.names.lookup y=some k→k=.local∨k=.cell∨k=.free→scope.names.lookup y=some .free∧(cenv.kindOf y=some .cell∨cenv.kindOf y=some .free):=fun k hk hk'=>by
    have hk0:=hk
    rw [hsc] at hk
    obtain ⟨k',e,r⟩:=lookup_relS hk
    have no:¬(k'=.local∨k'=.cell):=fun hh=>by
     rcases ok.own _ (PySem.mem_of_lookup e) hh with e' | e'
     ·obtain ⟨p,hp,hpy⟩:=List.mem_map.mp e'
      have e3:=ok.ix p hp
      have:p.1=y:=hpy
      rw [this] at e3
      exact hne (List.mem_map.mpr ⟨p,hp,nodup_ix hN e3 e1⟩)
     ·exact e' (List.mem_of_getElem? e1)
    rcases r with rfl | ⟨rfl,rfl⟩
    ·rcases hk' with rfl | rfl | rfl
     ·exact absurd (.inl rfl) no
     ·exact absurd (.inr rfl) no
     ·exact ⟨e,.inr hk0⟩
    ·exact ⟨e,.inl hk0⟩
   have e3:Vis cenv.scope y:=e3
   rcases e3 with e3 | e3 | e3
   ·exact key _ e3 (.inl rfl)
   ·exact key _ e3 (.inr (.inl rfl))
   ·exact key _ e3 (.inr (.inr rfl))
  obtain ⟨m,hn,hl⟩:=I.loc
  have hvis:Vis X.env.scope y:=(ok.free _ (PySem.mem_of_lookup hfr.1) rfl).elim (fun k=>.inr (.inl k)) (fun k=>.inr (.inr k))
  obtain ⟨w,r,q⟩:=hl i y av e1 e2 hvis
  refine ⟨w,r,.inr ⟨hfr.2,?_⟩⟩
  obtain ⟨c,h1,h2⟩:=look hfr.1
  rcases q with ⟨k,_⟩ | ⟨_,c',e',z⟩
  ·have k:X.env.scope.names.lookup y=some .local:=k
   rcases ok.free _ (PySem.mem_of_lookup hfr.1) rfl with k' | k'<;>rw [show X.env.scope.names.lookup y=_ from k'] at k<;>cases k
  ·rw [h2] at e';cases e'
   exact ⟨c,h1,z.keeps kp⟩
 ·have e:cenv.cells.lookup y=some c:=e
  rcases mem e with ⟨h1,_⟩ | ⟨_,z⟩
  ·obtain ⟨w,z⟩:=I.cell y c h1
   exact ⟨w,z.keeps kp⟩
  ·exact ⟨_,z⟩
 ·show H cenv.locals=none
  rw [hL];exact I.hok.fresh (Nat.le_refl _)
 ·have e:cenv.cells.lookup y=some c:=e
  rcases mem e with ⟨h1,_⟩ | ⟨h1,_⟩
  ·exact I.freeC y c h1
  ·exact I.hok.fresh (Nat.le_of_succ_le h1)
 ·exact absurd (show p∈([]:List (Addr×Obj))++[] from hp) (by simp)
theorem app_ok {E:Value→Shared→Prop} {D:Addr} {xs:List V} {y:V} {v:Value} {Q:Value→Shared→Prop} (I:Inv X pins σ H s) (hD:H D=some (.lst xs)) (hz:xs.length < sizeLine) (r:RelV y v)
 (h:∀s',Inv X pins σ (upd H D (.lst (xs++[y]))) s'→Q .none s'):wpAny (model X.prog X.w) X.A (call (.builtin "list.append") [.ref D,v]) Q E s:=by
 obtain ⟨hz',its,n,ri,e⟩:=I.hok D _ hD
 have hl:=ri.length
 refine append_at (hsz:=by rw [List.size_toArray];omega) e fun h' sb ho'=>?_
 refine h {s with heap:=h'} (I.write (t':=s.toks) (by rw [hD];trivial) (.inl rfl) (fun b u hb q=>(sb.2 b hb).trans q) ⟨_,ho'⟩ ⟨by rw [List.length_append];exact hz,its++[v],n + 1,ri.append (.cons r .nil),?_⟩)
 rw [ho']
 simp
def PTs (X:Cx) (ifs:List Expr) (t:TT):Prop:=
 ∀(pins:List (Addr×Obj)) (s:Shared) (σ:St) (H:Hp) (Q:Bool→Hp→Prop),Inv X pins σ H s→t σ H Q→
  wpAny (model X.prog X.w) X.A (forIn ifs true fun c r=>if r=true then do let ok ←isTrue c X.env (eval c X.env);pure (ForInStep.yield ok) else pure (ForInStep.yield r)) (TP X pins σ Q) X.xe s
def tYes:TT:=fun _ H Q=>Q true H
theorem pts_nil:PTs X [] tYes:=fun _ _ _ H _ I h=>wpAny_tests_nil ⟨H,I,h⟩
theorem pts_one {c:Expr} {t:TT} (h:PT X c t):PTs X [c] t:=fun pins s σ H Q I hw=>wpAny_tests_one (h pins s σ H Q I hw)
end
theorem thnF {α:Type} {t:Sem α} {Q Q':α→Shared→Prop} {M:Model} {A:Around} {E:Value→Shared→Prop} {s:Shared} (h:wpAny M A t Q (fun _ _=>False) s) (hQ:∀a s,Q a s→Q' a s):wpAny M A t Q' E s:=wpAny_mono h hQ fun _ _ z=>False.elim z
theorem compLoop_any {prog:Program} {w:World} {A:Around} {R:Result→Shared→Prop} {s:Shared} {elt target iter:Expr} {ifs:List Expr} {scope:Scope} {pos:Pos} {it acc:Value} {env:Env} (I:Nat→Shared→Prop)
 (turn:∀n s,I n s→wpAny (model prog w) A (pyNext it) (fun r s₁=>match r with
  | none=>R (.ok .next) s₁
  | some v=>wpAny (model prog w) A (letOwnedTupleGo target it v) (fun _ s₁'=>wpAny (model prog w) A (assign target env v) (fun _ s₂=>
   wpAny (model prog w) A (forIn ifs true fun c r=>if r=true then do let ok ←isTrue c env (eval c env);pure (ForInStep.yield ok) else pure (ForInStep.yield r)) (fun ok s₃=>
    if ok=true then wpAny (model prog w) A (eval elt env) (fun x s₄=>
     wpAny (model prog w) A (call (.builtin "list.append") [acc,x]) (fun _ s₅=>∃m,m < n∧I m s₅) (notedBy (model prog w) A env fun e s'=>R (.error e) s') s₄) (notedBy (model prog w) A env fun e s'=>R (.error e) s') s₃
    else ∃m,m < n∧I m s₃) (notedBy (model prog w) A env fun e s'=>R (.error e) s') s₂) (notedBy (model prog w) A env fun e s'=>R (.error e) s') s₁') (notedBy (model prog w) A env fun e s'=>R (.error e) s') s₁) (notedBy (model prog w) A env fun e s'=>R (.error e) s') s)
 (n:Nat) (h:I n s):
 codeAny (model prog w) A (.compLoop (.ListComp elt [⟨target,iter,ifs,0⟩] scope pos) 0 it acc env) R s:=by
 refine codeAny_loop rfl I (fun n s hI=>?_) n h
 show wpAny _ A ((compTurn (.ListComp elt [⟨target,iter,ifs,0⟩] scope pos) 0 it acc env).onRaise (fun x=>do noteFrame x env;theTreesLotGoes x)) _ _ s
 refine wpAny_noted ?_
 rw [compTurn_list]
 refine wpAny_bind (wpAny_standAt (wpAny_bind (wpAny_mono (turn n s hI) (fun r s₁ h₁=>?_) fun _ _ h'=>h')))
 cases r with
 | none=>exact wpAny_pure h₁
 | some v=>
  refine wpAny_bind (wpAny_mono h₁ (fun _ s₁' h₁'=>?_) fun _ _ h'=>h')
  refine wpAny_bind (wpAny_mono h₁' (fun _ s₂ h₂=>wpAny_bind (wpAny_mono h₂ (fun ok s₃ h₃=>?_) fun _ _ h'=>h')) fun _ _ h'=>h')
  cases ok with
  | false=>exact wpAny_pure ⟨rfl,h₃⟩
  | true=>
   exact wpAny_bind (wpAny_bind (wpAny_mono h₃ (fun x s₄ h₄=>wpAny_bind (wpAny_mono h₄ (fun _ s₅ h₅=>wpAny_pure (wpAny_pure ⟨rfl,h₅⟩)) fun _ _ h'=>h')) fun _ _ h'=>h'))
section
variable {X:Cx}
def tLc (wi:TI) (g:TG) (tt:TT) (te:TE) (vs:List Nat):TE:=fun σ H Q=>wi σ H fun J H1=>∀D,H1 D=none→∃W:Nat→Nat→Hp→Prop,(∃m,W 0 m (upd H1 D (.lst [])))∧∀i m H,W i m H→
 (J.stop i H∧Q (.ref D) H)∨(J.go i H∧∃Nx:Hp→Prop,(∀H',Nx H'→∃m',m' < m∧W (i + 1) m' H')∧∀x H',J.yld i H x H'→g x (wipe σ vs) H' fun σ2 H2=>wipe σ2 vs=wipe σ vs∧tt σ2 H2 fun b H3=>
  if b=true then te σ2 H3 fun y H4=>∃acc,H4 D=some (.lst acc)∧acc.length < sizeLine∧Nx (upd H4 D (.lst (acc++[y]))) else Nx H3)
theorem lc_core {pins:List (Addr×Obj)} {s:Shared} {σ:St} {H:Hp} {Q:VK} {elt tg iter:Expr} {ifs:List Expr} {scope:Scope} {own:List (Str×Nat)} {pos pos':Pos} {wi:TI} {g:TG} {tt:TT} {te:TE} {use:Option (Value→Sem Unit)} {Qf:Value→Shared→Prop}
 (hc:X.calm=true) (hN:X.N.Nodup) (I:Inv X pins σ H s) (hi:PI X tg iter wi) (ok:BlkOk X.N X.env.scope scope own)
 (hg:∀(s:Shared) (H:Hp) (C:Addr) (cl:List (Str×Addr)) (fp:List Addr),PG (X.blk s H scope (compEnvC scope cl C X.env) fp) tg g) (ht:∀(s:Shared) (H:Hp) (C:Addr) (cl:List (Str×Addr)) (fp:List Addr),PTs (X.blk s H scope (compEnvC scope cl C X.env) fp) ifs tt)
 (he:∀(s:Shared) (H:Hp) (C:Addr) (cl:List (Str×Addr)) (fp:List Addr),PE (X.blk s H scope (compEnvC scope cl C X.env) fp) elt te) (hs:∀x,foldedSetIterable iter X.env x=pure x)
 (h:tLc wi g tt te (own.map (·.2)) σ H Q)
 (hRR:∀D C s' m H',Inv X pins σ H' s'→Q (.ref D) H'→s'.heap.Ns C m→FpOk X pins H' C→compPost (model X.prog X.w) X.A X.xe use Qf (.ref D) C (.ok .next) s'):
 wpAny (model X.prog X.w) X.A (comprehension (.ListComp elt [⟨tg,iter,ifs,0⟩] scope pos) scope X.env pos' (newList []) false (eval iter X.env) use) Qf X.xe s:=by
 have hfree:∀y∈scope.names,y.2=.free→∃c,X.env.cells.lookup y.1=some c:=fun y hy e=>by
  rcases ok.free y hy e with k | k
  ·exact I.ok.has _ (.inl k)
  ·exact I.ok.has _ (.inr k)
 refine wpAny_comprehension_free (use:=use) rfl hs (closure_ok hfree) ok.kind (fun y hy e=>by rw [ok.uniq y hy,e])
  (thn (hi pins s σ H _ I h) fun xv s1 hx=>thn hx fun itv s2 h2=>?_)
 obtain ⟨it,fp,tn,J,H2,e,I2,T,st2,f2,q⟩:=h2
 subst e
 refine wpAny_newObj_type (newEnv_comp ?_) (by show 0≤sizeLine;decide)
 generalize hD:s2.heap.objs.size=D
 have hDn:H2 D=none:=I2.hok.fresh (Nat.le_of_eq hD)
 obtain ⟨W,⟨m0,w0⟩,turn⟩:=q D hDn
 generalize hs3:({s2 with heap:=s2.heap.push {cls:=.type "list",data:=.seq ([]:List Value).toArray}}:Shared)=s3
 have I3:Inv X pins σ (upd H2 D (.lst [])) s3:=by
  rw [←hs3]
  refine I2.laid (t':=s2.toks) (fun b o e=>Heap.get?_push_of_some _ e) (Nat.le_of_eq hD) ⟨Nat.zero_le _,[],0,.nil,?_⟩
  rw [←hD]
  exact Heap.get?_push_size _ rfl
 have h3:s3.heap=s2.heap.push {cls:=.type "list",data:=.seq ([]:List Value).toArray}:=by rw [←hs3]
 have sz:∀b∈fp,b < s2.heap.objs.size:=fun b hb=>by
  obtain ⟨o,e,_⟩:=T.obj _ _ st2 b hb
  exact Heap.lt_size e
 have f3:∀b∈fp,FpOk X pins (upd H2 D (.lst [])) b∧b < s3.heap.objs.size:=fun b hb=>by
  have hlt:=sz b hb
  refine ⟨⟨?_,(f2 b hb).2⟩,by rw [h3,Heap.size_push];exact Nat.lt_succ_of_lt hlt⟩
  rw [upd_ne (by rw [←hD];exact Nat.ne_of_lt hlt)]
  exact (f2 b hb).1
 have st3:tn 0 s3.heap:=T.keep _ _ _ st2 fun b _ o e=>by rw [h3];exact Heap.get?_push_of_some _ e
 have I4:=block_start I3 ok hN f3
 have pg:=hg s3 (upd H2 D (.lst [])) s3.heap.objs.size (cellsFrom (s3.heap.objs.size + 1) scope.names (cloFrom X.env.cells scope.names [])) fp
 have pt:=ht s3 (upd H2 D (.lst [])) s3.heap.objs.size (cellsFrom (s3.heap.objs.size + 1) scope.names (cloFrom X.env.cells scope.names [])) fp
 have pe:=he s3 (upd H2 D (.lst [])) s3.heap.objs.size (cellsFrom (s3.heap.objs.size + 1) scope.names (cloFrom X.env.cells scope.names [])) fp
 show codeAny _ _ (.compStart (.ListComp elt [⟨tg,iter,ifs,0⟩] scope pos) 0 (.ref it) (.ref D) (compEnvC scope (cellsFrom (s3.heap.objs.size + 1) scope.names (cloFrom X.env.cells scope.names [])) s3.heap.objs.size X.env)) (compPost (model X.prog X.w) X.A X.xe use Qf (.ref D) s3.heap.objs.size) {s3 with heap:=pushCells (s3.heap.push {cls:=.type "dict",data:=.dict #[]}) scope.names}
 have nfp:∀b∈fp,(upd H2 D (.lst [])) b=none:=fun b hb=>(f3 b hb).1.1
 generalize hce:compEnvC scope (cellsFrom (s3.heap.objs.size + 1) scope.names (cloFrom X.env.cells scope.names [])) s3.heap.objs.size X.env=ce at I4 pg pt pe ⊢
 have cL:ce.locals=s3.heap.objs.size:=by subst hce;rfl
 generalize hH3:upd H2 D (.lst [])=H3 at I3 I4 pg pt pe w0 nfp f3
 generalize hs4:({s3 with heap:=pushCells (s3.heap.push {cls:=.type "dict",data:=.dict #[]}) scope.names}:Shared)=s4 at I4 ⊢
 have st4:tn 0 s4.heap:=T.keep _ _ _ st3 fun b _ o e=>by rw [←hs4];exact pushCells_keeps _ _ _ _ (Heap.get?_push_of_some _ e)
 have stat:∀{σ':St} {H':Hp} {s':Shared},Inv (X.blk s3 H3 scope ce fp) [] σ' H' s'→(∀b∈fp,H' b=none)→∀b∈fp,FpOk (X.blk s3 H3 scope ce fp) [] H' b:=fun {σ' H' s'} I' hn b hb=>
  ⟨hn b hb,(I'.ok.exf b hb).1,I'.ok.exfs b hb,.inl hb,fun x c e=>(I'.ok.exf b hb).2 x c e,fun p hp=>absurd (show p∈([]:List (Addr×Obj))++[] from hp) (by simp)⟩
 have loop:codeAny (model X.prog X.w) X.A (.compLoop (.ListComp elt [⟨tg,iter,ifs,0⟩] scope pos) 0 (.ref it) (.ref D) ce) (compPost (model X.prog X.w) X.A X.xe use Qf (.ref D) s3.heap.objs.size) s4:=by
  refine compLoop_any (fun n s'=>∃i H',Inv (X.blk s3 H3 scope ce fp) [] (wipe σ (own.map (·.2))) H' s'∧tn i s'.heap∧(∀b∈fp,H' b=none)∧W i n H') ?_ m0 ⟨0,H3,I4,st4,nfp,w0⟩
  rintro n s5 ⟨i,H5,I5,st5,n5,w5⟩
  rcases turn i n H5 w5 with ⟨stop,qq⟩ | ⟨go,Nx,hNx,step⟩
  ·have td:=T.done (X.blk s3 H3 scope ce fp) rfl rfl rfl hc i [] s5 _ H5 (fun _ _=>False) I5 (stat I5 n5) st5 stop
   refine thnF td fun r s6 ⟨hr,I6⟩=>?_
   subst hr
   have I7:Inv X pins σ H5 s6:=I3.call' (ch:=fp) I6.os I6.base I6.hok I6.bare fun b hb=>⟨(f3 b hb).1.2.2.2.1,(f3 b hb).1.2.1,(f3 b hb).1.2.2.2.2.1,(f3 b hb).1.2.2.2.2.2⟩
   have nC:H5 s3.heap.objs.size=none:=by
    have z:H5 ce.locals=none:=I6.free
    rw [cL] at z
    exact z
   obtain ⟨m,hn,_⟩:=I6.loc
   have hn:s6.heap.Ns ce.locals m:=hn
   rw [cL] at hn
   exact hRR D s3.heap.objs.size s6 m H5 I7 qq hn (I3.fpOk (Nat.le_refl _) nC)
  ·have ti:=T.item (X.blk s3 H3 scope ce fp) rfl rfl rfl hc i [] s5 _ H5 (fun _ _=>False) I5 (stat I5 n5) st5 go
   refine thnF ti fun r s6 ⟨u,hr,h6⟩=>?_
   subst hr
   refine thnF h6 fun _ s7 ⟨x,H7,I7,r7,y7,st7,n7⟩=>?_
   have I7':=I7.pinned (stat I7 n7) (T.obj _ _ st7)
   refine thnF (pg _ s7 _ H7 x u _ I7' r7 (step x H7 y7)) fun _ s8 ⟨σ8,H8,I8,hw8,q8⟩=>?_
   refine thnF (pt _ s8 σ8 H8 _ I8 q8) fun b s9 ⟨H9,I9,q9⟩=>?_
   have fin:∀{s':Shared} {H':Hp},Inv (X.blk s3 H3 scope ce fp) ([]++pinsAt fp s7.heap) σ8 H' s'→Nx H'→∃m,m < n∧∃i H',Inv (X.blk s3 H3 scope ce fp) [] (wipe σ (own.map (·.2))) H' s'∧tn i s'.heap∧(∀b∈fp,H' b=none)∧W i m H':=fun {s' H'} I' nx=>by
    obtain ⟨m',hm,w'⟩:=hNx H' nx
    have pin':∀b∈fp,∀o,s7.heap.get? b=some o→s'.heap.get? b=some o∧H' b=none:=fun b hb o e=>
     let z:=I'.pin (b,o) (List.mem_append_right _ (List.mem_append_right _ (mem_pinsAt hb e)))
     ⟨z.1,z.2.1⟩
    have hl:(wipe σ (own.map (·.2))).length=σ8.length:=by rw [←hw8,wipe_length]
    refine ⟨m',hm,i + 1,H',(I'.unpinned (pins:=[])).weak hl (fun j v e=>?_),T.keep _ _ _ st7 fun b hb o e=>(pin' b hb o e).1,fun b hb=>?_,w'⟩
    ·rw [←hw8] at e
     exact (wipe_some e).1
    ·obtain ⟨o,e,_⟩:=T.obj _ _ st7 b hb
     exact (pin' b hb o e).2
   cases b with
   | false=>
    simp only [Bool.false_eq_true,if_false] at q9 ⊢
    exact fin I9 q9
   | true=>
    simp only [if_true] at q9 ⊢
    refine thnF (pe _ s9 σ8 H9 _ I9 q9) fun z s10 ⟨yv,H10,I10,r10,acc,hD10,hz10,nx⟩=>?_
    exact app_ok (X:=X.blk s3 H3 scope ce fp) I10 hD10 hz10 r10 fun s11 I11=>fin I11 nx
 exact codeAny_compStart_list loop (T.self X.A 0 _ _ _ st4 loop)
theorem pe_lc {elt tg iter:Expr} {ifs:List Expr} {scope:Scope} {own:List (Str×Nat)} {pos:Pos} {wi:TI} {g:TG} {tt:TT} {te:TE} (hc:X.calm=true) (hN:X.N.Nodup) (hi:PI X tg iter wi) (ok:BlkOk X.N X.env.scope scope own)
 (hg:∀(s:Shared) (H:Hp) (C:Addr) (cl:List (Str×Addr)) (fp:List Addr),PG (X.blk s H scope (compEnvC scope cl C X.env) fp) tg g) (ht:∀(s:Shared) (H:Hp) (C:Addr) (cl:List (Str×Addr)) (fp:List Addr),PTs (X.blk s H scope (compEnvC scope cl C X.env) fp) ifs tt)
 (he:∀(s:Shared) (H:Hp) (C:Addr) (cl:List (Str×Addr)) (fp:List Addr),PE (X.blk s H scope (compEnvC scope cl C X.env) fp) elt te) (hs:∀x,foldedSetIterable iter X.env x=pure x:=by intro _;rfl):
 PE X (.ListComp elt [⟨tg,iter,ifs,0⟩] scope pos) (tLc wi g tt te (own.map (·.2))):=by
 intro pins s σ H Q I h
 rw [eval_ListComp]
 refine lc_core hc hN I hi ok hg ht he hs h fun D C s' m H' I' q hn f=>⟨m,hn,fun h'' sb=>?_⟩
 obtain ⟨f0,f1,f2,f3,f4,f5⟩:=f
 exact ⟨.ref D,H',I'.turned (t':=s'.toks) (fun b o hb e=>(sb.2 b hb).trans e) f0 f1 f3 f4 f5,rfl,q⟩
theorem ps_setLc {i:Nat} {y:Str} {py:Pos} {elt tg iter:Expr} {ifs:List Expr} {scope:Scope} {own:List (Str×Nat)} {pos spos:Pos} {wi:TI} {g:TG} {tt:TT} {te:TE} (hc:X.calm=true) (hN:X.N.Nodup) (hy:X.N[i]?=some y) (hyl:X.env.scope.names.lookup y=some .local)
 (hsw:swapsWith (.ListComp elt [⟨tg,iter,ifs,0⟩] scope pos) (some (.Name y py)) spos.line X.env=pure true) (hi:PI X tg iter wi) (ok:BlkOk X.N X.env.scope scope own)
 (hg:∀(s:Shared) (H:Hp) (C:Addr) (cl:List (Str×Addr)) (fp:List Addr),PG (X.blk s H scope (compEnvC scope cl C X.env) fp) tg g) (ht:∀(s:Shared) (H:Hp) (C:Addr) (cl:List (Str×Addr)) (fp:List Addr),PTs (X.blk s H scope (compEnvC scope cl C X.env) fp) ifs tt)
 (he:∀(s:Shared) (H:Hp) (C:Addr) (cl:List (Str×Addr)) (fp:List Addr),PE (X.blk s H scope (compEnvC scope cl C X.env) fp) elt te) (hs:∀x,foldedSetIterable iter X.env x=pure x:=by intro _;rfl):
 PS X (.Assign [.Name y py] (.ListComp elt [⟨tg,iter,ifs,0⟩] scope pos) spos) (tAsg (tLc wi g tt te (own.map (·.2))) (gName i)):=by
 intro pins s σ H D I h
 rw [exec_Assign_Name_used _ _ _ _ hsw]
 refine wpAny_bind (wpAny_standAt (wpAny_bind ?_))
 show wpAny _ X.A (do let _ ←comprehension (.ListComp elt [⟨tg,iter,ifs,0⟩] scope pos) scope X.env (firstIterPos [⟨tg,iter,ifs,0⟩] pos) (newList []) false (eval iter X.env) (some (assign (.Name y py) X.env))) _ _ s
 have h:tLc wi g tt te (own.map (·.2)) σ H (fun x H1=>gName i x σ H1 D.nx):=h
 refine wpAny_bind (thn (lc_core (Qf:=fun _ s'=>SP X pins D .next s') hc hN I hi ok hg ht he hs h fun L C s' m H' I' q hn f=>?_) fun _ s' hq=>wpAny_pure (wpAny_pure hq))
 show wpAny _ _ (assign (.Name y py) X.env (.ref L)) _ _ _
 refine wpAny_assign_Name (store_ok2 (v:=V.ref L) I' hN hy (.inl hyl) rfl (fun s2 I2 ⟨a,sb,ha⟩=>?_) (.inr hyl))
 obtain ⟨f0,f1,f2,f3,f4,f5⟩:=f
 have haC:C≠a:=by
  rcases ha with z | z
  ·rw [z];exact f1
  ·exact fun e=>f4 y a z e.symm
 refine ⟨m,hn.sameBut sb haC,fun h3 sb3=>?_⟩
 exact ⟨_,H',I2.turned (t':=s2.toks) (fun b o hb e=>(sb3.2 b hb).trans e) f0 f1 f3 f4 f5,q⟩
theorem sw_true {elt:Expr} {gs:List Comprehension} {scope:Scope} {pos py:Pos} {y:Str} {l:Nat} {env:Env} (hk:env.scope.kind=.function) (hy:env.scope.names.lookup y=some .local) (hl:(py.line==pos.line)=true)
 (ha:(scope.names.any fun (n,k)=>n==y&&(k==.local||k==.cell))=false):swapsWith (.ListComp elt gs scope pos) (some (.Name y py)) l env=pure true:=by
 have ky:env.kindOf y=some .local:=hy
 have hb:env.blockKind=.function:=by unfold Env.blockKind;rw [hk];rfl
 unfold swapsWith
 simp only [hb,ky,ha,Expr.pos,hl]
 rfl
end
theorem lc_list {K:PySem.W.Frag} {a:Addr} {xs:List V} {g:TG} {tt:TT} {te:TE} {vs:List Nat} {σ:St} {H1:Hp} {D:Addr} {Qd:Hp→Prop} (Pv:Nat→Hp→Prop) (h0:Pv 0 (upd H1 D (.lst []))) (hl:∀i H,i≤xs.length→Pv i H→SqL K H a xs)
 (hs:∀i x H,xs[i]?=some x→Pv i H→g x (wipe σ vs) H fun σ2 H2=>wipe σ2 vs=wipe σ vs∧tt σ2 H2 fun b H3=>
  if b=true then te σ2 H3 fun y H4=>∃acc,H4 D=some (.lst acc)∧acc.length < sizeLine∧Pv (i + 1) (upd H4 D (.lst (acc++[y]))) else Pv (i + 1) H3) (hd:∀H,Pv xs.length H→Qd H):
 ∃W:Nat→Nat→Hp→Prop,(∃m,W 0 m (upd H1 D (.lst [])))∧∀i m H,W i m H→
  ((Itl K a).stop i H∧Qd H)∨((Itl K a).go i H∧∃Nx:Hp→Prop,(∀H',Nx H'→∃m',m' < m∧W (i + 1) m' H')∧∀x H',(Itl K a).yld i H x H'→g x (wipe σ vs) H' fun σ2 H2=>wipe σ2 vs=wipe σ vs∧tt σ2 H2 fun b H3=>
   if b=true then te σ2 H3 fun y H4=>∃acc,H4 D=some (.lst acc)∧acc.length < sizeLine∧Nx (upd H4 D (.lst (acc++[y]))) else Nx H3):=by
 refine ⟨fun i m H=>m=xs.length - i∧i≤xs.length∧Pv i H,⟨xs.length,by simp,Nat.zero_le _,h0⟩,?_⟩
 rintro i m H ⟨rfl,hi,p⟩
 have q:=hl i H hi p
 by_cases hlt:i < xs.length
 ·refine .inr ⟨⟨xs,xs[i],q,by simp [hlt]⟩,Pv (i + 1),fun H' p'=>⟨xs.length - (i + 1),by omega,rfl,hlt,p'⟩,fun x H' y=>?_⟩
  obtain ⟨e,y⟩:=y
  subst e
  exact hs i x _ (y xs q) p
 ·have e:i=xs.length:=by omega
  subst e
  exact .inl ⟨⟨xs,q,Nat.le_refl _⟩,hd H p⟩
theorem lc_tup {K:PySem.W.Frag} {a:Addr} {xs:List V} {g:TG} {tt:TT} {te:TE} {vs:List Nat} {σ:St} {H1:Hp} {D:Addr} {Qd:Hp→Prop} (Pv:Nat→Hp→Prop) (h0:Pv 0 (upd H1 D (.lst []))) (hl:∀i H,i≤xs.length→Pv i H→SqT K H a xs)
 (hs:∀i x H,xs[i]?=some x→Pv i H→g x (wipe σ vs) H fun σ2 H2=>wipe σ2 vs=wipe σ vs∧tt σ2 H2 fun b H3=>
  if b=true then te σ2 H3 fun y H4=>∃acc,H4 D=some (.lst acc)∧acc.length < sizeLine∧Pv (i + 1) (upd H4 D (.lst (acc++[y]))) else Pv (i + 1) H3) (hd:∀H,Pv xs.length H→Qd H):
 ∃W:Nat→Nat→Hp→Prop,(∃m,W 0 m (upd H1 D (.lst [])))∧∀i m H,W i m H→
  ((Itt K a).stop i H∧Qd H)∨((Itt K a).go i H∧∃Nx:Hp→Prop,(∀H',Nx H'→∃m',m' < m∧W (i + 1) m' H')∧∀x H',(Itt K a).yld i H x H'→g x (wipe σ vs) H' fun σ2 H2=>wipe σ2 vs=wipe σ vs∧tt σ2 H2 fun b H3=>
   if b=true then te σ2 H3 fun y H4=>∃acc,H4 D=some (.lst acc)∧acc.length < sizeLine∧Nx (upd H4 D (.lst (acc++[y]))) else Nx H3):=by
 refine ⟨fun i m H=>m=xs.length - i∧i≤xs.length∧Pv i H,⟨xs.length,by simp,Nat.zero_le _,h0⟩,?_⟩
 rintro i m H ⟨rfl,hi,p⟩
 have q:=hl i H hi p
 by_cases hlt:i < xs.length
 ·refine .inr ⟨⟨xs,xs[i],q,by simp [hlt]⟩,Pv (i + 1),fun H' p'=>⟨xs.length - (i + 1),by omega,rfl,hlt,p'⟩,fun x H' y=>?_⟩
  obtain ⟨e,y⟩:=y
  subst e
  exact hs i x _ (y xs q) p
 ·have e:i=xs.length:=by omega
  subst e
  exact .inl ⟨⟨xs,q,Nat.le_refl _⟩,hd H p⟩
def blkC (N:List Str) (sc scope:Scope) (own:List (Str×Nat)):Bool:=
 (match scope.kind with | .function=>true | _=>false)&&(scope.names.all fun y=>decide (scope.names.lookup y.1=some y.2))&&(own.all fun p=>decide (N[p.2]?=some p.1))&&
  (scope.names.all fun y=>match y.2 with
   | .free=>(match sc.names.lookup y.1 with | some .cell=>true | some .free=>true | _=>false)
   | .local=>decide (y.1∈own.map (·.1))||decide (y.1 ∉ N)
   | .cell=>decide (y.1∈own.map (·.1))||decide (y.1 ∉ N)
   | _=>true)
theorem blkOk_by {N:List Str} {sc scope:Scope} {own:List (Str×Nat)} (h:blkC N sc scope own=true):BlkOk N sc scope own:=by
 unfold blkC at h
 simp only [Bool.and_eq_true,List.all_eq_true,decide_eq_true_eq] at h
 obtain ⟨⟨⟨h1,h2⟩,h3⟩,h4⟩:=h
 refine ⟨?_,h2,h3,fun y hy e=>?_,fun y hy e=>?_⟩
 ·split at h1
  ·assumption
  ·cases h1
 ·have q:=h4 y hy
  simp only [e] at q
  split at q<;>first | exact .inl (by assumption) | exact .inr (by assumption) | cases q
 ·have q:=h4 y hy
  rcases e with e | e<;>(simp only [e,Bool.or_eq_true,decide_eq_true_eq] at q;exact q)
end L2
namespace L2
open PySem PySem.Spec PyProof.Rows
section
variable {prog:Program} {w:World} {A:Around} {R:Result→Shared→Prop} {s:Shared} {elt t0 i0 t1 i1:Expr} {ifs0 ifs1:List Expr} {scope:Scope} {pos:Pos} {it acc:Value} {env:Env}
end
section
variable {X:Cx}
end
end L2
namespace L2
open PySem PySem.Spec PyProof.Rows
section
variable {κ:Type} [DecidableEq κ]
def valV (kvs:List (κ×V)) (k:κ):Option V:=(kvs.find? fun kv=>decide (kv.1=k)).map (·.2)
def putK (kvs:List (κ×V)) (k:κ) (v:V):List (κ×V):=
 if (kvs.any fun kv=>decide (kv.1=k))=true then kvs.map (fun kv=>if kv.1=k then (kv.1,v) else kv) else kvs++[(k,v)]
theorem valV_pos {p:κ×V} {r:List (κ×V)} {k:κ} (e:p.1=k):valV (p::r) k=some p.2:=by simp [valV,List.find?_cons,e]
theorem valV_neg {p:κ×V} {r:List (κ×V)} {k:κ} (e:¬p.1=k):valV (p::r) k=valV r k:=by simp [valV,List.find?_cons,e]
theorem valV_any (k:κ):∀kvs:List (κ×V),(kvs.any fun kv=>decide (kv.1=k))=(valV kvs k).isSome
 | []=>rfl
 | p::r=>by
  rw [List.any_cons]
  by_cases e:p.1=k
  ·simp only [valV_pos e,decide_eq_true e,Bool.true_or,Option.isSome_some]
  ·rw [valV_neg e,decide_eq_false e,Bool.false_or];exact valV_any k r
theorem valV_map (k j:κ) (y:V):∀kvs:List (κ×V),valV (kvs.map fun kv=>if kv.1=k then (kv.1,y) else kv) j=(valV kvs j).map fun x=>if j=k then y else x
 | []=>rfl
 | p::r=>by
  have ih:=valV_map k j y r
  rw [List.map_cons]
  by_cases h:p.1=k
  ·rw [if_pos h]
   by_cases e:p.1=j
   ·rw [valV_pos (p:=(p.1,y)) e,valV_pos e,Option.map_some,if_pos (e.symm.trans h)]
   ·rw [valV_neg (p:=(p.1,y)) e,valV_neg e,ih]
  ·rw [if_neg h]
   by_cases e:p.1=j
   ·rw [valV_pos (p:=p) e,valV_pos e,Option.map_some,if_neg (fun z=>h (e.trans z))]
   ·rw [valV_neg (p:=p) e,valV_neg e,ih]
theorem valV_snoc (k j:κ) (y:V):∀kvs:List (κ×V),valV kvs k=none→valV (kvs++[(k,y)]) j=if j=k then some y else valV kvs j
 | [],_=>by
  by_cases e:k=j
  ·rw [if_pos e.symm];exact valV_pos (p:=(k,y)) e
  ·rw [if_neg (fun z=>e z.symm)];exact valV_neg (p:=(k,y)) e
 | p::r,hn=>by
  rw [List.cons_append]
  have hk:¬p.1=k:=fun z=>by rw [valV_pos z] at hn;cases hn
  rw [valV_neg hk] at hn
  have ih:=valV_snoc k j y r hn
  by_cases e:p.1=j
  ·rw [valV_pos e,valV_pos e,if_neg (fun z=>hk (e.trans z))]
  ·rw [valV_neg e,valV_neg e,ih]
theorem valV_put (kvs:List (κ×V)) (k j:κ) (y:V):valV (putK kvs k y) j=if j=k then some y else valV kvs j:=by
 unfold putK
 by_cases a:(kvs.any fun kv=>decide (kv.1=k))=true
 ·rw [if_pos a,valV_map]
  rw [valV_any] at a
  by_cases e:j=k
  ·obtain ⟨x,hx⟩:=Option.isSome_iff_exists.mp a
   rw [if_pos e,e,hx,Option.map_some,if_pos rfl]
  ·rw [if_neg e]
   cases valV kvs j with
   | none=>rfl
   | some x=>rw [Option.map_some,if_neg e]
 ·rw [if_neg a]
  refine valV_snoc k j y kvs ?_
  rw [valV_any] at a
  cases q:valV kvs k with
  | none=>rfl
  | some x=>rw [q] at a;exact (a rfl).elim
theorem length_putK (kvs:List (κ×V)) (k:κ) (v:V):(putK kvs k v).length≤kvs.length + 1:=by
 unfold putK
 split
 ·rw [List.length_map];omega
 ·rw [List.length_append,List.length_cons,List.length_nil];omega
theorem RelO.isSome_eq {o:Option V} {u:Option Value} (r:RelO o u):o.isSome=u.isSome:=by
 cases o with
 | none=>cases u with
  | none=>rfl
  | some _=>exact (show False from r).elim
 | some _=>cases u with
  | none=>exact (show False from r).elim
  | some _=>rfl
theorem RelO.getD {o:Option V} {u:Option Value} {d:V} {d':Value} (r:RelO o u) (rd:RelV d d'):RelV (o.getD d) (u.getD d'):=by
 cases o with
 | none=>cases u with
  | none=>exact rd
  | some _=>exact (show False from r).elim
 | some _=>cases u with
  | none=>exact (show False from r).elim
  | some _=>exact r
theorem KV.val {kvs:List (κ×V)} {vs:List (κ×Value)} (r:KV kvs vs) (k:κ):RelO (valV kvs k) (valueAt vs k):=by
 unfold KV at r
 induction r with
 | nil=>exact True.intro
 | @cons p q ps qs h t ih=>
  obtain ⟨h1,h2⟩:=h
  by_cases e:p.1=k
  ·have e':q.1=k:=h1.symm.trans e
   have b:valueAt (q::qs) k=some q.2:=by simp [valueAt,List.find?_cons,e']
   rw [valV_pos e,b];exact h2
  ·have e':¬q.1=k:=fun z=>e (h1.trans z)
   have b:valueAt (q::qs) k=valueAt qs k:=by simp [valueAt,List.find?_cons,e']
   rw [valV_neg e,b];exact ih
theorem KV.any {kvs:List (κ×V)} {vs:List (κ×Value)} (r:KV kvs vs) (k:κ):(kvs.any fun kv=>decide (kv.1=k))=vs.any fun kv=>decide (kv.1=k):=by
 unfold KV at r
 induction r with
 | nil=>rfl
 | cons h t ih=>rw [List.any_cons,List.any_cons,ih,h.1]
theorem KV.repl {kvs:List (κ×V)} {vs:List (κ×Value)} (r:KV kvs vs) (k:κ) {y:V} {u:Value} (ry:RelV y u):
 KV (kvs.map fun kv=>if kv.1=k then (kv.1,y) else kv) (vs.map fun kv=>if kv.1=k then (kv.1,u) else kv):=by
 unfold KV at r ⊢
 induction r with
 | nil=>exact .nil
 | @cons p q ps qs h t ih=>
  rw [List.map_cons,List.map_cons]
  refine .cons ?_ ih
  obtain ⟨h1,h2⟩:=h
  by_cases e:p.1=k
  ·rw [if_pos e,if_pos (h1.symm.trans e)];exact ⟨h1,ry⟩
  ·rw [if_neg e,if_neg (fun z=>e (h1.trans z))];exact ⟨h1,h2⟩
theorem KV.put {kvs:List (κ×V)} {vs:List (κ×Value)} (r:KV kvs vs) (k:κ) {y:V} {u:Value} (ry:RelV y u):KV (putK kvs k y) (stored vs k u):=by
 unfold putK stored
 rw [r.any k]
 by_cases e:(vs.any fun kv=>decide (kv.1=k))=true
 ·rw [if_pos e,if_pos e];exact r.repl k ry
 ·rw [if_neg e,if_neg e];exact Paired.snoc r ⟨rfl,ry⟩
theorem KV.length {kvs:List (κ×V)} {vs:List (κ×Value)} (r:KV kvs vs):kvs.length=vs.length:=Paired.length r
end
theorem kV_is {P:Program} {w:World} {k:Key} {u:Value} (r:RelV (kV k) u):(mixKind P w).is k u=true:=by
 cases k with
 | inl i=>obtain ⟨t,e⟩:=(show ∃t,u=Value.int i t from r);subst e;exact mixKind_int P w i t
 | inr x=>obtain ⟨t,e⟩:=(show ∃t,u=Value.str x t from r);subst e;exact mixKind_str P w x t
theorem items_are {P:Program} {w:World}:∀{ks:List Key} {us:List Value},Vals (ks.map kV) us→ItemsAre (mixKind P w) ks us
 | [],_,r=>by rw [List.map_nil] at r;cases r;exact .nil
 | k::ks,_,r=>by
  rw [List.map_cons] at r
  cases r with
  | cons h t=>exact .cons (kV_is h) (items_are t)
abbrev KT (H:Hp):List (List Key×V)→List (List Key×Addr×Value)→Prop:=Paired fun p q=>p.1=q.1∧H q.2.1=some (.tup (p.1.map kV))∧RelV p.2 q.2.2
theorem KT.val {H:Hp} {kvs:List (List Key×V)} {xs:List (List Key×Addr×Value)} (r:KT H kvs xs) (k:List Key):RelO (valV kvs k) ((atKey xs k).map (·.2)):=by
 induction r with
 | nil=>exact True.intro
 | @cons p q ps qs h t ih=>
  obtain ⟨h1,_,h2⟩:=h
  by_cases e:p.1=k
  ·have e':q.1=k:=h1.symm.trans e
   have b:atKey (q::qs) k=some q.2:=by simp [atKey,List.find?_cons,e']
   rw [valV_pos e,b];exact h2
  ·have e':¬q.1=k:=fun z=>e (h1.trans z)
   have b:atKey (q::qs) k=atKey qs k:=by simp [atKey,List.find?_cons,e']
   rw [valV_neg e,b];exact ih
theorem KT.repl {H:Hp} {kvs:List (List Key×V)} {xs:List (List Key×Addr×Value)} (r:KT H kvs xs) (k:List Key) {y:V} {u:Value} (ry:RelV y u):
 KT H (kvs.map fun kv=>if kv.1=k then (kv.1,y) else kv) (xs.map (putAt k u)):=by
 induction r with
 | nil=>exact .nil
 | @cons p q ps qs h t ih=>
  rw [List.map_cons,List.map_cons]
  refine .cons ?_ ih
  obtain ⟨h1,h2,h3⟩:=h
  unfold putAt
  by_cases e:p.1=k
  ·rw [if_pos e,if_pos (h1.symm.trans e)];exact ⟨h1,h2,ry⟩
  ·rw [if_neg e,if_neg (fun z=>e (h1.trans z))];exact ⟨h1,h2,h3⟩
theorem KT.put {H:Hp} {kvs:List (List Key×V)} {xs:List (List Key×Addr×Value)} (r:KT H kvs xs) (k:List Key) {b:Addr} {y:V} {u:Value} (hb:H b=some (.tup (k.map kV))) (ry:RelV y u):
 KT H (putK kvs k y) (storedH xs k b u):=by
 have e:(kvs.any fun kv=>decide (kv.1=k))=(atKey xs k).isSome:=by
  rw [valV_any,(r.val k).isSome_eq,Option.isSome_map]
 unfold putK storedH
 rw [e]
 by_cases q:(atKey xs k).isSome=true
 ·rw [if_pos q,if_pos q];exact r.repl k ry
 ·rw [if_neg q,if_neg q];exact Paired.snoc r ⟨rfl,hb,ry⟩
theorem KT.keeps {H H':Hp} {kvs:List (List Key×V)} {xs:List (List Key×Addr×Value)} (r:KT H kvs xs) (ht:∀b ys,H b=some (.tup ys)→H' b=some (.tup ys)):KT H' kvs xs:=
 Paired.mapP r fun _ _ z=>⟨z.1,ht _ _ z.2.1,z.2.2⟩
section
variable {P:Program} {w:World} {H:Hp} {h:Heap} {a:Addr}
theorem rd_of {u:HO} (ok:HOk P w H h) (e:Rd H a u):ObjOk P w H h a u:=e.ok ok
theorem dk_rd {kvs:List (Key×V)} (ok:HOk P w H h) (e:Rd H a (.dK kvs)):kvs.length≤sizeLine∧(a==sysModules)=false∧∃vs,KV kvs vs∧h.DictOf (mixKind P w) a vs:=
 show ObjOk P w H h a (.dK kvs) from rd_of ok e
theorem dk_of {kvs:List (Key×V)} (ok:HOk P w H h) (e:H a=some (.dK kvs)):kvs.length≤sizeLine∧(a==sysModules)=false∧∃vs,KV kvs vs∧h.DictOf (mixKind P w) a vs:=dk_rd ok (.inl e)
theorem key_of {ks:List Key} (ok:HOk P w H h) (e:H a=some (.tup (ks.map kV))):(tupleKind (mixKind P w)).is h ks a:=by
 obtain ⟨_,its,r,o,h1,h2,n,h3⟩:=(show ObjOk P w H h a (.tup (ks.map kV)) from ok a _ e)
 exact ⟨o,its.toArray,n,h1,h2,h3,by simpa using items_are r⟩
theorem dt_rd {kvs:List (List Key×V)} (ok:HOk P w H h) (e:Rd H a (.dT kvs)):kvs.length≤sizeLine∧(a==sysModules)=false∧
 ∃xs,KT H kvs xs∧h.DictOfH (tupleKind (mixKind P w)) a xs:=by
 obtain ⟨z,y,xs,r,o,es,ep,h1,h2,h3,h4,h5⟩:=(show ObjOk P w H h a (.dT kvs) from rd_of ok e)
 refine ⟨z,y,xs,r,o,es,ep,h1,h2,h3,h4,fun x hx=>?_,h5⟩
 have all:∀{l:List (List Key×V)} {m:List (List Key×Addr×Value)},KT H l m→∀x∈m,(tupleKind (mixKind P w)).is h x.1 x.2.1:=by
  intro l m q
  induction q with
  | nil=>intro x hx;exact nomatch hx
  | @cons p q ps qs hq t ih=>
   intro x hx
   rcases List.mem_cons.mp hx with e | hx
   ·subst e
    exact key_of ok (by rw [←hq.1];exact hq.2.1)
   ·exact ih x hx
 exact all r x hx
theorem dt_of {kvs:List (List Key×V)} (ok:HOk P w H h) (e:H a=some (.dT kvs)):kvs.length≤sizeLine∧(a==sysModules)=false∧
 ∃xs,KT H kvs xs∧h.DictOfH (tupleKind (mixKind P w)) a xs:=dt_rd ok (.inl e)
end
def DGet (H:Hp) (a:Addr) (y:V) (r:Option V):Prop:=
 (∃kvs k,Rd H a (.dK kvs)∧y=kV k∧r=valV kvs k)∨∃kvs k b,Rd H a (.dT kvs)∧y=.ref b∧H b=some (.tup (k.map kV))∧r=valV kvs k
def DPut (H:Hp) (a:Addr) (y v:V) (H':Hp):Prop:=
 (∃kvs k,H a=some (.dK kvs)∧y=kV k∧kvs.length < sizeLine∧H'=upd H a (.dK (putK kvs k v)))∨
 ∃kvs k b,H a=some (.dT kvs)∧y=.ref b∧H b=some (.tup (k.map kV))∧kvs.length < sizeLine∧H'=upd H a (.dT (putK kvs k v))
theorem DGet.k {H:Hp} {a:Addr} {kvs:List (Key×V)} {k:Key} (e:H a=some (.dK kvs)):DGet H a (kV k) (valV kvs k):=.inl ⟨kvs,k,.inl e,rfl,rfl⟩
theorem DPut.k {H:Hp} {a:Addr} {kvs:List (Key×V)} {k:Key} {v:V} (e:H a=some (.dK kvs)) (hl:kvs.length < sizeLine):DPut H a (kV k) v (upd H a (.dK (putK kvs k v))):=.inl ⟨kvs,k,e,rfl,hl,rfl⟩
section
variable {X:Cx} {pins:List (Addr×Obj)} {σ:St} {H:Hp} {s:Shared} {a:Addr} {y v:V} {u r:Value} {o:Option V} {A:Around} {E:Value→Shared→Prop}
theorem Inv.big (I:Inv X pins σ H s):sysModules < s.heap.objs.size:=by
 have h:mainGlobals < s.heap.objs.size:=(I.mod.glob.keeps I.bk).lt
 exact Nat.lt_trans (by decide) h
theorem d_write {h':Heap} {t':Nat} {ob:HO} (I:Inv X pins σ H s) (mu:Mut (H a)) (hs:Heap.SameBut a s.heap h') (he:∃q,h'.get? a=some q) (new:ObjOk X.prog X.w (upd H a ob) h' a ob):
 Inv X pins σ (upd H a ob) {s with heap:=h',toks:=t'}:=
 I.write (x:=a) (e:=a) mu (.inl rfl) (fun b q hb z=>(hs.2 b hb).trans z) he new
theorem dk_new {P:Program} {w:World} {H':Hp} {h':Heap} {kvs:List (Key×V)} {vs:List (Key×Value)} (z:kvs.length≤sizeLine) (hd:(a==sysModules)=false) (rel:KV kvs vs) (dd:h'.DictOf (mixKind P w) a vs):
 ObjOk P w H' h' a (.dK kvs):=⟨z,hd,vs,rel,dd⟩
theorem d_setItem {H':Hp} {Q:Unit→Shared→Prop} (hu:A.units + 1 < cLine) (I:Inv X pins σ H s) (g:DPut H a y v H') (ry:RelV y u) (rv:RelV v r) (h:∀s',Inv X pins σ H' s'→Q () s'):
 wpAny (model X.prog X.w) A (setItem (.ref a) u r) Q E s:=by
 rcases g with ⟨kvs,k,e,ey,l,eH⟩ | ⟨kvs,k,b,e,ey,eb,l,eH⟩
 ·subst ey eH
  obtain ⟨z,hd,vs,rel,dd⟩:=dk_of I.hok e
  have hz:vs.length≤sizeLine:=by rw [←rel.length];exact z
  have hl:(putK kvs k v).length≤sizeLine:=by have:=length_putK kvs k v;omega
  refine wpAny_setItem_pairs (hsz:=hz) (kV_is ry) dd fun h' dd' hs=>h _ ?_
  have he:∃q,h'.get? a=some q:=let ⟨q,_,_,hq,_⟩:=dd';⟨q,hq⟩
  exact d_write I (by rw [e];exact True.intro) hs he (dk_new hl hd (rel.put k rv) dd')
 ·subst ey eH
  cases (show u=Value.ref b from ry)
  obtain ⟨z,hd,xs,rel,dd⟩:=dt_of I.hok e
  have hz:xs.length≤sizeLine:=by rw [←Paired.length rel];exact z
  have hl:(putK kvs k v).length≤sizeLine:=by have:=length_putK kvs k v;omega
  refine wpAny_setItem_heap (hsz:=hz) (tupleKind_room_in1 hu) (key_of I.hok eb) dd fun h' dd' hs=>h _ ?_
  obtain ⟨q,es,ep,hq,h2,h3,h4,_,h5⟩:=dd'
  refine d_write I (by rw [e];exact True.intro) hs ⟨q,hq⟩ ⟨hl,hd,_,(rel.put k eb rv).keeps fun c ys ec=>?_,q,es,ep,hq,h2,h3,h4,h5⟩
  rw [upd_ne (ne_of ec e (fun z=>nomatch z))]
  exact ec
end
section
variable {X:Cx} {pins:List (Addr×Obj)} {σ:St} {H:Hp} {s:Shared} {a:Addr} {kvs:List (Key×V)} {k:Key} {u:Value} {A:Around} {E:Value→Shared→Prop}
end
def NoSl (i:Expr):Prop:=∀ov iv,subscripted i false ov iv=operate [ov,iv] (getItem ov iv)
theorem subD_of {prog:Program} {w:World} {A:Around} {E:Value→Shared→Prop} {s:Shared} {env:Env} {value slice:Expr} {pos:Pos} {T id:String} {Q:Value→Shared→Prop}
 (hl:typeLookup (.type T) "__getitem__"=pure (some (.builtin id))) (hs:NoSl slice)
 (h:wpAny (model prog w) A (eval value env) (fun o s₁=>wpAny (model prog w) A (eval slice env) (fun i s₂=>s₂.TypeIs o T∧wpAny (model prog w) A (getItem o i) Q E s₂) E s₁) E s):
 wpAny (model prog w) A (eval (.Subscript value slice pos) env) Q E s:=by
 refine Subscript_ (wpAny_mono h (fun o s₁ h₁=>wpAny_mono h₁ (fun i s₂ h₂=>?_) fun _ _ x=>x) fun _ _ x=>x)
 obtain ⟨hT,h₂⟩:=h₂
 unfold subscriptTail
 refine wpAny_bind ?_
 rw [getitemInPython_of_ne hT.not_modules]
 refine wpAny_bind (wpAny_specialOf hT hl ?_)
 have fin:wpAny (model prog w) A (subscripted slice false o i) (fun r s₃=>wpAny (model prog w) A (letTemporaryGo value o r >>= fun _=>pure r) Q E s₃) E s₂:=by
  rw [hs o i]
  exact wpAny_operating (wpAny_mono h₂ (fun r s₃ h₃=>wpAny_bind (wpAny_letTemporaryGo (wpAny_pure h₃))) fun _ _ x=>x)
 first
  | exact wpAny_pure (wpAny_bind fin)
  | exact wpAny_bind (wpAny_pure (wpAny_bind fin))
  | exact wpAny_bind fin
def sDPut (td ty tv:TE):TS:=fun D σ H=>tv σ H fun v H1=>td σ H1 fun x H2=>ty σ H2 fun y H3=>∃a H4,x=.ref a∧DPut H3 a y v H4∧D.nx σ H4
section
variable {X:Cx} {o i e value:Expr} {pos pos' tpos:Pos} {td ty tv:TE}
theorem ps_dput (hu:X.A.units + 1 < cLine) (ho:PE X o td) (hi:PE X i ty) (hv:PE X value tv) (hs:swapsWith value (some (.Subscript o i pos')) pos.line X.env=pure false):
 PS X (.Assign [.Subscript o i pos'] value pos) (sDPut td ty tv):=by
 intro pins s σ H D I h
 refine wpAny_Assign_Subscript (thn (hv pins s σ H _ I h) fun r s1 ⟨v,H1,I1,rv,q1⟩=>thn (ho pins s1 σ H1 _ I1 q1) fun u s2 ⟨x,H2,I2,rx,q2⟩=>thn (hi pins s2 σ H2 _ I2 q2) fun iv s3 ⟨y,H3,I3,ry,a,H4,ex,g,q3⟩=>?_) hs
 subst ex
 obtain rfl:u=Value.ref a:=rx
 exact d_setItem hu I3 g ry rv fun s4 I4=>⟨σ,H4,I4,q3⟩
end
theorem dk_empty {P:Program} {w:World} {H:Hp} (h:Heap) (hb:sysModules < h.objs.size):ObjOk P w H (h.push {cls:=.type "dict",data:=.dict #[]}) h.objs.size (.dK []):=
 ⟨Nat.zero_le _,beq_eq_false_iff_ne.mpr (Ne.symm (Nat.ne_of_lt hb)),[],.nil,Heap.DictOf.new h⟩
def tDNewK:TE:=fun _ H Q=>∀p,H p=none→Q (.ref p) (upd H p (.dK []))
section
variable {X:Cx} {pos:Pos}
theorem pe_dnewK:PE X (.Dict [] [] pos) tDNewK:=fun pins s σ H Q I h=>
 wpAny_Dict_empty ⟨.ref s.heap.objs.size,_,I.laid (a:=s.heap.objs.size) (o:=.dK []) (t':=s.toks) (fun _ _ q=>Heap.get?_push_of_some _ q) (Nat.le_refl _) (dk_empty s.heap I.big),rfl,h _ (I.hok.fresh (Nat.le_refl _))⟩
end
structure M2 (X:Cx) (o:Expr) (m:Str) (apos:Pos) (e f:Expr) (cpos:Pos):Prop where
 base:attributeBase o m X.env (eval o X.env)=eval o X.env
 few:((backTo cpos (starEach [e,f] X.env)).all (fun x=>!x.1)&&(backToKw cpos (keywordEach [] X.env)).all (fun x=>x.1.isSome)
  &&decide (([e,f]:List Expr).length + ([]:List Keyword).length + (if ([]:List Keyword).isEmpty then 0 else 1) < 30))=true
 line:(apos.endLine==cpos.line)=true
 trees:backTo cpos (starEach [e,f] X.env)=[(false,eval e X.env),(false,eval f X.env)]
def IsD (H:Hp) (a:Addr):Prop:=(∃kvs,Rd H a (.dK kvs))∨∃kvs,Rd H a (.dT kvs)
theorem isD_at {X:Cx} {pins:List (Addr×Obj)} {σ:St} {H:Hp} {s:Shared} {a:Addr} (I:Inv X pins σ H s) (d:IsD H a):
 s.TypeIs (.ref a) "dict"∧(∀b,Value.ref a=.ref b→∃ob,s.heap.get? b=some ob∧ob.dict=none)∧(a==sysModules)=false:=by
 rcases d with ⟨kvs,e⟩ | ⟨kvs,e⟩
 ·obtain ⟨_,hd,vs,_,dd⟩:=dk_rd I.hok e
  refine ⟨dd.typeIs,fun b q=>?_,hd⟩
  cases q
  obtain ⟨ob,_,_,h1,h2,_⟩:=dd
  exact ⟨ob,h1,h2.2.1⟩
 ·obtain ⟨_,hd,xs,_,dd⟩:=dt_rd I.hok e
  refine ⟨dd.typeIs,fun b q=>?_,hd⟩
  cases q
  obtain ⟨ob,_,_,h1,h2,_⟩:=dd
  exact ⟨ob,h1,h2.2.1⟩
section
variable {X:Cx} {pins:List (Addr×Obj)} {σ:St} {H:Hp} {s:Shared} {a:Addr} {y d:V} {u r:Value} {o:Option V} {A:Around} {E:Value→Shared→Prop}
theorem d_get2 {Q:Value→Shared→Prop} (hu:A.units + 1 < cLine) (I:Inv X pins σ H s) (g:DGet H a y o) (ry:RelV y u) (rd:RelV d r) (h:∀w' s',Inv X pins σ H s'→RelV (o.getD d) w'→Q w' s'):
 wpAny (model X.prog X.w) A (call (.builtin "dict.get") [.ref a,u,r]) Q E s:=by
 rcases g with ⟨kvs,k,e,ey,l⟩ | ⟨kvs,k,b,e,ey,eb,l⟩
 ·subst ey
  obtain ⟨z,hd,vs,rel,dd⟩:=dk_rd I.hok e
  refine call_meetsIn PySem.F.slot_dict_get dd.typeIs PySem.F.entry_dict_get (PySem.F.args_dict_get_3 _ _ _) (meets_dict_get_default (mixKind X.prog X.w) a (kV_is ry) hd r) ⟨_,dd.mapOf,h _ _ (I.tok _) ?_⟩
  rw [l]
  exact (rel.val k).getD rd
 ·subst ey
  cases (show u=Value.ref b from ry)
  obtain ⟨z,hd,xs,rel,dd⟩:=dt_rd I.hok e
  refine call_meetsIn PySem.F.slot_dict_get dd.typeIs PySem.F.entry_dict_get (PySem.F.args_dict_get_3 _ _ _) (meetsH_dict_get_default (tupleKind (mixKind X.prog X.w)) a b hd r) ⟨tupleKind_room_in1 hu,k,xs,key_of I.hok eb,dd,h _ _ (I.tok _) ?_⟩
  rw [l]
  exact (rel.val k).getD rd
end
def tDGet2 (td ty tx:TE):TE:=fun σ H Q=>td σ H fun x H1=>∃a,x=.ref a∧IsD H1 a∧ty σ H1 fun y H2=>tx σ H2 fun z H3=>∃o,DGet H3 a y o∧Q (o.getD z) H3
section
variable {X:Cx} {o e f:Expr} {apos cpos:Pos} {td ty tx:TE}
theorem pe_dget2 (hu:X.A.units + 1 < cLine) (ho:PE X o td) (he:PE X e ty) (hf:PE X f tx) (m:M2 X o "get" apos e f cpos):PE X (.Call (.Attribute o "get" apos) [e,f] [] cpos) (tDGet2 td ty tx):=by
 intro pins s σ H Q I h
 refine wpAny_Call_method m.base m.few m.line PySem.F.plainAttrs_dict PySem.F.slot_dict_get PySem.F.type_dict_get (thn (ho pins s σ H _ I h) fun u s1 ⟨x,H1,I1,rx,a,ex,d,q1⟩=>?_)
 subst ex
 obtain rfl:u=Value.ref a:=rx
 obtain ⟨t1,t2,_⟩:=isD_at I1 d
 refine ⟨t1,t2,?_⟩
 rw [m.trees]
 refine Calls.callWith_builtin rfl (Calls.evalArgs_plain (Calls.spliced_cons (thn (he pins s1 σ H1 _ I1 q1) fun iv s2 ⟨y,H2,I2,ry,q2⟩=>
  Calls.spliced_cons (thn (hf pins s2 σ H2 _ I2 q2) fun fv s3 ⟨z,H3,I3,rz,ov,g,q3⟩=>Calls.spliced_nil ?_))))
 exact d_get2 hu I3 g ry rz fun w' s4 I4 rw'=>⟨_,H3,I4,rw',q3⟩
end
section
variable {X:Cx} {pins:List (Addr×Obj)} {σ:St} {H:Hp} {s:Shared} {a:Addr} {kvs:List (Key×V)} {A:Around} {E:Value→Shared→Prop}
end
section
variable {X:Cx} {pins:List (Addr×Obj)} {σ:St} {H:Hp} {s:Shared} {a:Addr} {y:V} {u:Value} {A:Around} {E:Value→Shared→Prop}
end
end L2
namespace L2
open PySem PySem.Spec PyProof.Rows
section
variable {prog:Program} {w:World} {A:Around} {E:Value→Shared→Prop}
end
section
variable {X:Cx}
end
end L2
namespace L2
open PySem PySem.Spec PyProof.Rows
section
variable {X:Cx} {pins:List (Addr×Obj)} {σ:St} {H:Hp} {s:Shared} {h':Heap}
theorem Inv.turnedNew {t':Nat} {ch:List Addr} {T:Addr} {ob:HO} (I:Inv X pins σ H s) (k:∀b o,b ∉ ch→s.heap.get? b=some o→h'.get? b=some o) (hf:∀b∈ch,FpOk X pins H b) (hT:s.heap.objs.size≤T)
 (new:ObjOk X.prog X.w (upd H T ob) h' T ob):Inv X pins σ (upd H T ob) {s with heap:=h',toks:=t'}:=by
 have hn:H T=none:=I.hok.fresh hT
 have nit:∀b u,H b=some u→b ∉ ch:=fun b u e z=>by
  have q:=(hf b z).1
  rw [q] at e;cases e
 refine I.step (g':=s.gens) (d':=s.drawn) (ch:=ch) (fun b hb=>⟨(hf b hb).2.2.2.1,(hf b hb).2.1,(hf b hb).2.2.2.2.1,(hf b hb).2.2.2.2.2⟩) (fun b o _ _ hc e _=>k b o hc e) (fun b o _ _ hc e _=>⟨o.slots,k b o hc e⟩)
  (fun b o _ e n=>?_) (fun b o hc e=>⟨o,k b o hc e⟩) (fun b xs e=>?_) (fun b o u e=>?_) (fun b ps e=>⟨#[],?_⟩) (fun m hm=>?_) (fun b u e=>?_) I.bare
 ·rw [upd_ne (Nat.ne_of_lt (Nat.lt_of_lt_of_le (Heap.lt_size e) hT))];exact n
 ·rw [upd_ne (ne_of_none e hn)];exact e
 ·rw [upd_ne (ne_of_none e hn)];exact e
 ·rw [upd_ne (ne_of_none e hn),e];simp
 ·obtain ⟨o,es,ep,ho,r⟩:=hm
  exact ⟨o,es,ep,k _ o (fun z=>(hf _ z).2.1 rfl) ho,r⟩
 ·by_cases hb:b=T
  ·subst hb
   rw [upd_same] at e
   cases e
   exact new
  ·rw [upd_ne hb] at e
   refine (I.hok b u e).stay (fun c v hc q=>k c v ?_ q) (fun c q=>by rw [upd_ne (ne_of_none q hn)];exact q) fun c xs q=>by rw [upd_ne (ne_of_none q hn)];exact q
   rcases hc with z | z
   ·rw [z];exact nit b u e
   ·exact nit c _ z
end
section
variable {X:Cx}
theorem pi_one {tg:Expr} {pins:List (Addr×Obj)} {σ:St} {H:Hp} {s:Shared} {R:It→Hp→Prop} {J:It} {tn:Nat→Heap→Prop} {tk:Nat} (I:Inv X pins σ H s) (o:Obj)
 (T:Turn X.prog X.w X.K tg J [s.heap.objs.size] s.heap.objs.size tn) (st:tn 0 (s.heap.push o)) (q:R J H):PIE X pins σ tg R (.ref s.heap.objs.size) {s with heap:=s.heap.push o,toks:=tk}:=by
 refine ⟨s.heap.objs.size,[s.heap.objs.size],tn,J,H,rfl,I.kept fun b ob e=>Heap.get?_push_of_some _ e,T,st,fun b hb=>?_,q⟩
 have e:b=s.heap.objs.size:=by simpa using hb
 subst e
 exact I.fpOk (Nat.le_refl _) (I.hok.fresh (Nat.le_refl _))
end
def Itc (lo c:Int) (n:Nat):It:=⟨fun i _=>i < n,fun i H x H'=>H'=H∧x=.int (lo + (i:Nat) * c),fun i _=>n≤i⟩
theorem turn_rangeC {P:Program} {w:World} {K:PySem.W.Frag} {tg:Expr} (it:Addr) (lo c:Int) (n:Nat):Turn P w K tg (Itc lo c n) [it] it (fun i h=>IsRangeIter h it (lo + (i:Nat) * c) ((n:Int) - (i:Nat)) c) where
 mem:=by simp
 obj:=fun i h st b hb=>by
  have e:b=it:=by simpa using hb
  subst e
  exact ⟨_,st,fun v z=>nomatch z⟩
 keep:=fun i h h' st k=>k it (by simp) _ st
 item:=by
  intro X hP hw hK hc i pins s σ H E I hf st hg
  subst hP hw hK
  obtain ⟨f0,f1,f2,f3,f4,f5⟩:=hf it (by simp)
  have W:=Walks.range (prog:=X.prog) (w:=X.w) (I.ok.hd hc) it lo c n
  refine W.item i s _ _ hg st fun v h' tk hv st' kk=>?_
  obtain ⟨t,rfl⟩:=hv
  have I1:Inv X pins σ H {s with heap:=h',toks:=tk}:=I.turned (fun b o hb e=>kk b o (by simpa using hb) e) f0 f1 f3 f4 f5
  exact ⟨_,rfl,go_of (s:={s with heap:=h',toks:=tk}) (n:="range_iterator") st' rfl rfl (by decide) ⟨.int (lo + (i:Nat) * c),H,I1,⟨t,rfl⟩,⟨rfl,rfl⟩,st',fun b hb=>(hf b hb).1⟩⟩
 done:=by
  intro X hP hw hK hc i pins s σ H E I hf st hg
  subst hP hw hK
  obtain ⟨f0,f1,f2,f3,f4,f5⟩:=hf it (by simp)
  exact wpAny_pyNext_range_end (I.ok.hd hc) st (by have:n≤i:=hg;omega) fun h' eb=>⟨rfl,I.turned (t':=s.toks) (fun b o hb e=>eb b o hb e) f0 f1 f3 f4 f5⟩
 self:=fun A i s Q E st h=>wpAny_pyIter_rangeiter st h
def RgC (i j c:Int) (n:Nat):Prop:=c≠0∧c.natAbs < 1073741824∧Builtin.Range.small i j c=true∧Builtin.Range.rangeSize i j c=n
def iRng3 (ta:TA):TI:=fun σ H R=>ta σ H fun vs H1=>∃(i j c:Int) (n:Nat),vs=[.int i,.int j,.int c]∧RgC i j c n∧R (Itc i c n) H1
section
variable {X:Cx} {tg:Expr}
theorem pi_range3 {a b c:Expr} {ta:TA} {p pos:Pos} (hg:Gl X "range") (hm:X.mg "range"=none) (ha:PA X [a,b,c] ta)
 (hs:starEach [a,b,c] X.env=(false,eval a X.env)::starEach [b,c] X.env:=by rfl) (hpl:(backTo pos (starEach [b,c] X.env)).any (·.1)=false:=by rfl):
 PI X tg (.Call (.Name "range" p) [a,b,c] [] pos) (iRng3 ta):=by
 intro pins s σ H R I h
 refine Call_ (ld_blt I hg hm boot_range (PyProof.Rows.callWith_type1 (thn (ha pos pins s σ H _ I h) fun us s1 ⟨vs,H1,I1,r1,q1⟩=>?_) hs hpl))
 obtain ⟨i,j,k,n,e,⟨c0,c1,c2,c3⟩,q⟩:=q1
 subst e
 cases r1 with
 | cons r rr=>
  cases rr with
  | cons r' rr=>
   cases rr with
   | cons r'' rr=>
    cases rr
    obtain ⟨t,rfl⟩:=r
    obtain ⟨t',rfl⟩:=r'
    obtain ⟨t'',rfl⟩:=r''
    refine call_range_3 c0 ?_ (.inl (PyProof.noPylong_small c1))
    refine wpAny_pyIter_range (IsRange.new ..) c2 ?_
    have I2:Inv X pins σ H1 {s1 with heap:=s1.heap.push {cls:=.type "range",data:=.fields #[.int i t,.int j t',.int k t'']}}:=I1.kept (t':=s1.toks) fun b o e=>Heap.get?_push_of_some _ e
    refine pi_one (tk:=s1.toks) I2 _ (turn_rangeC _ i k n) ?_ q
    have e1:i + ((0:Nat):Int) * k=i:=by simp
    have e2:(n:Int) - ((0:Nat):Int)=Builtin.Range.rangeSize i j k:=by rw [c3];simp
    show IsRangeIter _ _ (i + ((0:Nat):Int) * k) ((n:Int) - ((0:Nat):Int)) k
    rw [e1,e2]
    exact Heap.get?_push_size _ rfl
end
section
variable {X:Cx} {tg:Expr}
end
section
variable {prog:Program} {w:World} {A:Around} {E:Value→Shared→Prop} {s:Shared}
end
section
variable {X:Cx} {pins:List (Addr×Obj)} {σ:St} {H:Hp} {s:Shared} {d:Addr} {o:Obj}
end
section
variable {P:Program} {w:World} {K:PySem.W.Frag} {tg:Expr} {d:Addr} {o:Obj} {es:Array DictEntry} {ep:Nat}
end
section
variable {X:Cx} {tg e:Expr} {td:TE} {apos cpos:Pos}
end
def Ite (K:PySem.W.Frag) (a:Addr):It:=
 ⟨fun i H=>∃(xs:List V) (x:V),SqL K H a xs∧xs[i]?=some x,fun i H v H'=>∃T x,v=.ref T∧H T=none∧H'=upd H T (.tup [.int (i:Nat),x])∧∀xs,SqL K H a xs→xs[i]?=some x,fun i H=>∃xs:List V,SqL K H a xs∧xs.length≤i⟩
theorem turn_enum {P:Program} {w:World} {K:PySem.W.Frag} {elts:List Expr} {kk:Nat} {tpos:Pos} (a e it:Addr):
 Turn P w K (.Tuple elts kk tpos) (Ite K a) [e,it] e (fun i h=>(∃old,IsEnum h e it ((i:Nat):Int) old)∧h.IsListIter it a i∧e≠it) where
 mem:=by simp
 obj:=fun i h st b hb=>by
  obtain ⟨⟨old,he⟩,⟨o,ho,hc,hd⟩,_⟩:=st
  have e':b=e∨b=it:=by simpa using hb
  rcases e' with z | z
  ·rw [z];exact ⟨_,he,fun v q=>nomatch q⟩
  ·rw [z];exact ⟨o,ho,fun v q=>by rw [hd] at q;cases q⟩
 keep:=fun i h h' st k=>let ⟨⟨old,he⟩,hi,hne⟩:=st;⟨⟨old,k e (by simp) _ he⟩,hi.at fun o q=>k it (by simp) o q,hne⟩
 item:=by
  intro X hP hw hK hc i pins s σ H E I hf st hg
  subst hP hw hK
  obtain ⟨⟨old,he⟩,hit,hne⟩:=st
  obtain ⟨xs,x,hq,hx⟩:=hg
  obtain ⟨its,rv,p,hz⟩:=I.list hq
  obtain ⟨u,hu,ru⟩:=rv.get hx
  have hel:e < s.heap.objs.size:=Heap.lt_size he
  have hil:it < s.heap.objs.size:=by obtain ⟨_,q,_⟩:=hit;exact Heap.lt_size q
  refine wpAny_pyNext_enum_item he hit p.isList (x:=u) (by simpa using hu) hne fun h' ho hit' hT hsz hk=>?_
  refine ⟨_,rfl,wpAny_letOwnedTupleGo_enum (s:={s with heap:=h',toks:=s.toks + 1}) ho fun h'' he' sb=>?_⟩
  have hT2:h''.get? s.heap.objs.size=some {cls:=.type "tuple",data:=.seq #[.int i s.toks,u]}:=(sb.2 _ (Nat.ne_of_gt hel)).trans hT
  have new:ObjOk X.prog X.w (upd H s.heap.objs.size (.tup [.int (i:Nat),x])) h'' s.heap.objs.size (.tup [.int (i:Nat),x]):=
   ⟨by show 2≤sizeLine;decide,[.int i s.toks,u],.cons ⟨_,rfl⟩ (.cons ru .nil),⟨_,hT2,rfl,_,rfl⟩⟩
  have I1:Inv X pins σ (upd H s.heap.objs.size (.tup [.int (i:Nat),x])) {s with heap:=h'',toks:=s.toks + 1}:=
   I.turnedNew (ch:=[e,it]) (fun b ob hb q=>(sb.2 b (fun z=>hb (by simp [z]))).trans (hk b ob (fun z=>hb (by simp [z])) (fun z=>hb (by simp [z])) q)) hf (Nat.le_refl _) new
  refine ⟨.ref s.heap.objs.size,_,I1,rfl,⟨_,x,rfl,I.hok.fresh (Nat.le_refl _),rfl,fun ys hy=>by rw [I.list_inj hy hq];exact hx⟩,⟨⟨u,?_⟩,hit'.at fun o q=>(sb.2 it (Ne.symm hne)).trans q,hne⟩,fun b hb=>?_⟩
  ·have e1:((i + 1:Nat):Int)=(i:Int) + 1:=by omega
   rw [e1];exact he'
  ·have hb':b < s.heap.objs.size:=by
    have e':b=e∨b=it:=by simpa using hb
    rcases e' with z | z
    ·rw [z];exact hel
    ·rw [z];exact hil
   rw [upd_ne (Nat.ne_of_lt hb')]
   exact (hf b hb).1
 done:=by
  intro X hP hw hK hc i pins s σ H E I hf st hg
  subst hP hw hK
  obtain ⟨⟨old,he⟩,hit,hne⟩:=st
  obtain ⟨xs,hq,hx⟩:=hg
  obtain ⟨its,rv,p,hz⟩:=I.list hq
  obtain ⟨f0,f1,f2,f3,f4,f5⟩:=hf it (by simp)
  have hl:=rv.length
  exact wpAny_pyNext_enum_end (I.ok.hd hc) he hit p.isList (by simp;omega) fun h' eb=>⟨rfl,I.turned (t':=s.toks) (fun b o hb q=>eb b o hb q) f0 f1 f3 f4 f5⟩
 self:=fun A i s Q E st h=>let ⟨⟨_,he⟩,_⟩:=st;wpAny_pyIter_enum he h
def iEnum (K:PySem.W.Frag) (ta:TA):TI:=fun σ H R=>ta σ H fun vs H1=>∃a xs,vs=[.ref a]∧SqL K H1 a xs∧R (Ite K a) H1
theorem pi_enum {X:Cx} {e:Expr} {ta:TA} {p pos tpos:Pos} {elts:List Expr} {kk:Nat} (hg:Gl X "enumerate") (hm:X.mg "enumerate"=none) (ha:PA X [e] ta) (hs:starEach [e] X.env=[(false,eval e X.env)]:=by rfl):
 PI X (.Tuple elts kk tpos) (.Call (.Name "enumerate" p) [e] [] pos) (iEnum X.K ta):=by
 intro pins s σ H R I h
 refine Call_ (ld_blt I hg hm boot_enumerate (PyProof.Rows.callWith_type1 (thn (ha pos pins s σ H _ I h) fun us s1 ⟨vs,H1,I1,r1,q1⟩=>?_) hs rfl))
 obtain ⟨a,xs,ex,hq,q⟩:=q1
 subst ex
 cases r1 with
 | cons r rr=>
  cases rr
  cases r
  obtain ⟨its,rv,p',hz⟩:=I1.list hq
  refine call_enumerate_list p'.isList fun h' he hit hsz hk=>wpAny_pyIter_enum he ?_
  have I2:Inv X pins σ H1 {s1 with heap:=h'}:=I1.kept (t':=s1.toks) hk
  refine ⟨s1.heap.objs.size + 1,[s1.heap.objs.size + 1,s1.heap.objs.size],_,_,H1,rfl,I2,turn_enum a (s1.heap.objs.size + 1) s1.heap.objs.size,⟨⟨.none,he⟩,hit,Nat.succ_ne_self _⟩,fun b hb=>?_,q⟩
  have e':b=s1.heap.objs.size + 1∨b=s1.heap.objs.size:=by simpa using hb
  have hle:s1.heap.objs.size≤b:=by
   rcases e' with z | z
   ·rw [z];exact Nat.le_add_right _ _
   ·rw [z];exact Nat.le_refl _
  exact I1.fpOk hle (I1.hok.fresh hle)
end L2
section
namespace Bits
open PySem PyProof.Rows
end Bits
end
section
namespace TL
open PySem PySem.Builtin PySem.Builtin.Str PySem.StrLaws
end TL
end
namespace L2
open PySem PySem.Spec PyProof.Rows
section
variable {X:Cx} {pins:List (Addr×Obj)} {σ:St} {H:Hp} {s:Shared} {Q:VK}
end
section
variable {X:Cx}
end
section
variable {X:Cx} {o e:Expr} {to te:TE}
end
end L2
namespace L2
open PySem PySem.Spec PyProof.Rows
section
variable {X:Cx}
end
end L2
namespace Att
open PySem PySem.W PySem.Calls PyProof.Rows
section
variable {prog:Program} {w:World} {A:Around} {E:Value→Shared→Prop} {s:Shared} {K:Frag}
end
end Att
namespace L2
open PySem PySem.Spec PyProof.Rows
end L2
namespace L2
open PySem PySem.Spec PyProof.Rows
end L2
namespace L2
open PySem PySem.Spec PyProof.Rows
def inClass (s:Stmt) (j:Nat):Stmt:=match s with
 | .ClassDef _ _ _ body _ _ _ _ _ _ _=>body.getD j (.Pass ⟨0,0,0,0⟩)
 | _=>.Pass ⟨0,0,0,0⟩
def defArgs (s:Stmt):Arguments:=match s with
 | .FunctionDef _ a _ _ _ _ _ _ _ _=>a
 | _=>{posonlyargs:=[],args:=[],vararg:=none,kwonlyargs:=[],kw_defaults:=[],kwarg:=none,defaults:=[]}
def defBody (s:Stmt):List Stmt:=match s with
 | .FunctionDef _ _ b _ _ _ _ _ _ _=>b
 | _=>[]
def defScope (s:Stmt):Scope:=match s with
 | .FunctionDef _ _ _ _ _ _ sc _ _ _=>sc
 | _=>{kind:=.function,names:=[],isGenerator:=false,isCoroutine:=false}
abbrev CX0:CXT:=fun _ _ _ _ _ _=>False
abbrev E0:XK:=fun _ _ _=>False
theorem pass0 {X:Cx}:Passes CX0 X E0:=fun _ _ _ _ _ _ _ h=>h.elim
structure Fun (K:PySem.W.Frag) (x qual:Str) (st:Stmt) (f:Addr) (fd:FuncData):Prop where
 ex:∃(oc:Value) (od:Option Addr) (kV doc pm:Value) (an:Option Addr) (cdv ct:Value) (osl:Array (Option Value)),
  fd=PySem.W.fnOf x qual (defArgs st) (defBody st) (defScope st) .none kV doc pm an cdv ct∧K.lookup f=some ⟨oc,od,.func fd,osl⟩∧PySem.W.codeIn K cdv qual=true
 kp:PySem.W.keepIn K (.ref f)=true
section
variable {P:Program} {w:World} {K:PySem.W.Frag} {mg:Str→Option Value} {base:Heap}
theorem Fun.ok {x qual:Str} {st:Stmt} {f:Addr} {fd:FuncData} {N ps:List Str} {k:Nat} {sp:Sp} (F:Fun K x qual st f fd) (S:FnScope N ps (defScope st)) (len:∀vs H Q E,sp vs H Q E→vs.length=ps.length)
 (hbody:∀(cdv:Value) (A:Around) (outer:List Env) (s:Shared) (H:Hp) (vs:List V) (Q:VK) (E:XK),Room k (A.deeper (envOfC qual (defScope st) s.heap.objs.size f cdv))→sp vs H Q E→
  ∃t,PSs (cxOf CX0 P w K mg base N qual (defScope st) f cdv A outer s H E).nox (defBody st) t∧t {nx:=fun _ H'=>Q .non H',rt:=Q} (start N vs) H):FnOk P w K mg base CX0 (k + 1) f fd ps sp:=by
 obtain ⟨oc,od,kV,doc,pm,an,cdv,ct,osl,rfl,lk,hcd⟩:=F.ex
 refine fn_of lk hcd S len fun A outer s H vs Q E hr hsp=>?_
 obtain ⟨t,h,q⟩:=hbody cdv A outer s H vs Q E hr hsp
 exact ⟨t,h.nox,q⟩
theorem Fun.binds {x qual:Str} {st:Stmt} {f:Addr} {fd:FuncData} {ps:List Str} (F:Fun K x qual st f fd)
 (h:∀(kV doc pm:Value) (an:Option Addr) (cdv ct:Value) (us:List Value),us.length=ps.length→bindArgs (PySem.W.fnOf x qual (defArgs st) (defBody st) (defScope st) .none kV doc pm an cdv ct) ⟨us,[]⟩=pure (ps.zip us)):Binds K fd ps []:=by
 obtain ⟨oc,od,kV,doc,pm,an,cdv,ct,osl,rfl,lk,hcd⟩:=F.ex
 exact .all (h kV doc pm an cdv ct)
theorem fun_mk {x qual:Str} {st:Stmt} {f:Addr} {oc:Value} {od an:Option Addr} {osl:Array (Option Value)} {kV doc pm cdv ct:Value} (l:K.lookup f=some ⟨oc,od,.func (PySem.W.fnOf x qual (defArgs st) (defBody st) (defScope st) .none kV doc pm an cdv ct),osl⟩)
 (c:PySem.W.codeIn K cdv qual=true) (k:PySem.W.keepIn K (.ref f)=true):Fun K x qual st f (PySem.W.fnOf x qual (defArgs st) (defBody st) (defScope st) .none kV doc pm an cdv ct):=⟨⟨oc,od,kV,doc,pm,an,cdv,ct,osl,rfl,l,c⟩,k⟩
end
theorem hu_of {A:Around} {k:Nat} (hr:Room k A):A.units + 1 < cLine:=Nat.lt_of_le_of_lt (Nat.add_le_add_left (by decide:1≤64) _) hr.units
theorem small1000 {n:Nat} (h:n≤1000):n < sizeLine:=Nat.lt_of_le_of_lt h (by decide)
section
variable {X:Cx}
theorem pv (i:Nat) {x:Str} {pos:Pos} (hN:X.N[i]?=some x:=by rfl) (hv:Vis X.env.scope x:=by first | exact Or.inl rfl | exact Or.inr (Or.inl rfl) | exact Or.inr (Or.inr rfl)) (hd:(x==("__debug__":Str))=false:=by decide)
 (hcd:(x==("__classdict__":Str))=false:=by decide):PE X (.Name x pos) (tVar i):=pe_var hN hv hd hcd
end
theorem iteF {A B:Prop} (h:B):if false=true then A else B:=by
 rw [if_neg Bool.false_ne_true]
 exact h
theorem iteT {A B:Prop} (h:A):if true=true then A else B:=by
 rw [if_pos rfl]
 exact h
theorem ite2 {c A B:Prop} [Decidable c] (h1:c→A) (h2:¬c→B):if c then A else B:=by
 by_cases h:c
 ·rw [if_pos h]
  exact h1 h
 ·rw [if_neg h]
  exact h2 h
def Same (H H':Hp):Prop:=∀b o,H b=some o→H' b=some o
theorem Same.free {H H':Hp} (e:Same H H') {l:Addr} (h:H' l=Option.none):H l=Option.none:=by
 cases q:H l with
 | none=>rfl
 | some o=>
  rw [e l o q] at h
  cases h
section
variable {κ:Type} [DecidableEq κ]
theorem valV_not {kvs:List (κ×V)} {k:κ} (h:valV kvs k=none):¬k∈kvs.map (·.1):=by
 intro m
 obtain ⟨p,hp,e⟩:=List.mem_map.mp m
 have q:(kvs.any fun kv=>decide (kv.1=k))=true:=List.any_eq_true.mpr ⟨p,hp,decide_eq_true e⟩
 rw [valV_any,h] at q
 exact absurd q (by simp)
theorem valV_in {kvs:List (κ×V)} {k:κ} {v:V} (h:valV kvs k=some v):k∈kvs.map (·.1):=by
 have q:(kvs.any fun kv=>decide (kv.1=k))=true:=by
  rw [valV_any,h]
  all_goals rfl
 obtain ⟨p,hp,e⟩:=List.any_eq_true.mp q
 exact List.mem_map.mpr ⟨p,hp,of_decide_eq_true e⟩
end
end L2
section
namespace L2
open PySem PySem.Spec PyProof.Rows
open PySem.W (WData Codec OpenSpec Well WellAll ReadsW ReadsAllW)
mutual
/-- x stands for the datum d,lists and tuples all the way -/
inductive Dw (K:PySem.W.Frag) (H:Hp):V→WData→Prop
 | non:Dw K H .non .none
 | bl (b:Bool):Dw K H (.bl b) (.bool b)
 | int (i:Int):Dw K H (.int i) (.int i)
 | str (x:Str):Dw K H (.str x) (.str x)
 | byt (b:Array UInt8):Dw K H (.byt b) (.bytes b.toList)
 | lst {a:Addr} {xs:List V} {ds:List WData}:SqL K H a xs→DwAll K H xs ds→Dw K H (.ref a) (.list ds)
 | tup {a:Addr} {xs:List V} {ds:List WData}:SqT K H a xs→DwAll K H xs ds→Dw K H (.ref a) (.tuple ds)
inductive DwAll (K:PySem.W.Frag) (H:Hp):List V→List WData→Prop
 | nil:DwAll K H [] []
 | cons {v:V} {vs:List V} {d:WData} {ds:List WData}:Dw K H v d→DwAll K H vs ds→DwAll K H (v::vs) (d::ds)
end
theorem dw_ints {K:PySem.W.Frag} {H:Hp}:∀ns:List Int,DwAll K H (ns.map V.int) (ns.map WData.int)
 | []=>.nil
 | n::r=>.cons (.int n) (dw_ints r)
theorem ints_dw {K:PySem.W.Frag} {H:Hp}:∀(ns:List Int) (xs:List V),DwAll K H xs (ns.map WData.int)→xs=ns.map V.int
 | [],xs,h=>by
  cases h
  rfl
 | n::r,xs,h=>by
  cases h with
  | cons h1 h2=>
   cases h1
   rw [ints_dw r _ h2]<;>rfl
section
variable {P:Program} {w:World} {K:PySem.W.Frag} {H:Hp} {h:Heap} {R:PySem.W.WRecords} {cl:Str→Option Addr}
theorem sqL_at {a:Addr} {xs:List V} (hok:HOk P w H h) (KX:K.In h) (q:SqL K H a xs):∃(its:List Value) (o:Obj) (n:Nat),Vals xs its∧h.get? a=some o∧o.cls=.type "list"∧o.data=.seq its.toArray n:=by
 rcases q with q | ⟨o,its,n,e,hc,_,hd,_,hv⟩
 ·obtain ⟨_,its,n,hv,e⟩:=(show ObjOk P w H h a (.lst xs) from q.ok hok)
  exact ⟨its,_,n,hv,e,rfl,rfl⟩
 ·exact ⟨its.toList,o,n,hv,KX _ _ e,hc,by simp [hd]⟩
theorem sqT_at {a:Addr} {xs:List V} (hok:HOk P w H h) (KX:K.In h) (q:SqT K H a xs):∃(its:List Value) (o:Obj) (n:Nat),Vals xs its∧h.get? a=some o∧o.cls=.type "tuple"∧o.data=.seq its.toArray n:=by
 rcases q with q | ⟨o,its,n,e,hc,hd,_,hv⟩
 ·obtain ⟨_,its,hv,o,e,hc,n,hd⟩:=(show ObjOk P w H h a (.tup xs) from q.ok hok)
  exact ⟨its,o,n,hv,e,hc,hd⟩
 ·exact ⟨its.toList,o,n,hv,KX _ _ e,hc,by simp [hd]⟩
mutual
theorem Dw.reads (hok:HOk P w H h) (KX:K.In h):∀(d:WData) (v:V) (u:Value),Dw K H v d→RelV v u→∃as,ReadsW R cl h u d as
 | .none,_,_,x,r=>by
  cases x
  cases r
  exact ⟨_,ReadsW.none⟩
 | .bool b,_,_,x,r=>by
  cases x
  cases r
  exact ⟨_,ReadsW.bool b⟩
 | .int i,_,_,x,r=>by
  cases x
  obtain ⟨t,rfl⟩:=r
  exact ⟨_,ReadsW.int i t⟩
 | .str s,_,_,x,r=>by
  cases x
  obtain ⟨t,rfl⟩:=r
  exact ⟨_,ReadsW.str s t⟩
 | .bytes b,_,_,x,r=>by
  cases x
  obtain ⟨t,rfl⟩:=r
  exact ⟨_,ReadsW.bytes _ t⟩
 | .list ds,_,_,x,r=>by
  cases x with
  | lst hs ha=>
   cases r
   obtain ⟨its,o,n,rv,ho,hc,hd⟩:=sqL_at hok KX hs
   obtain ⟨as,hr⟩:=Dw.readsAll hok KX ds _ its ha rv
   exact ⟨_,ReadsW.list ho hc hd hr⟩
 | .tuple ds,_,_,x,r=>by
  cases x with
  | tup hs ha=>
   cases r
   obtain ⟨its,o,n,rv,ho,hc,hd⟩:=sqT_at hok KX hs
   obtain ⟨as,hr⟩:=Dw.readsAll hok KX ds _ its ha rv
   exact ⟨_,ReadsW.tuple ho hc hd hr⟩
 | .float _,_,_,x,_=>by cases x
 | .dict _,_,_,x,_=>by cases x
 | .bytearray _,_,_,x,_=>by cases x
 | .set _,_,_,x,_=>by cases x
 | .frozenset _,_,_,x,_=>by cases x
 | .obj _ _,_,_,x,_=>by cases x
theorem Dw.readsAll (hok:HOk P w H h) (KX:K.In h):∀(ds:List WData) (vs:List V) (us:List Value),DwAll K H vs ds→Vals vs us→∃as,ReadsAllW R cl h us ds as
 | [],_,_,x,r=>by
  cases x
  cases r
  exact ⟨_,ReadsAllW.nil⟩
 | d::ds,_,_,x,r=>by
  cases x with
  | cons h1 h2=>
   cases r with
   | cons r1 r2=>
    obtain ⟨as,q1⟩:=Dw.reads hok KX d _ _ h1 r1
    obtain ⟨bs,q2⟩:=Dw.readsAll hok KX ds _ _ h2 r2
    exact ⟨_,ReadsAllW.cons q1 q2⟩
end
end
mutual
/-- data that a codec tells -/
def plW:WData→Bool
 | .none=>true
 | .bool _=>true
 | .int _=>true
 | .str _=>true
 | .bytes _=>true
 | .list xs=>plWs xs
 | .tuple xs=>plWs xs
 | _=>false
def plWs:List WData→Bool
 | []=>true
 | x::r=>plW x&&plWs r
end
theorem plWs_map {α:Type} {f:α→WData} (h:∀a,plW (f a)=true):∀l:List α,plWs (l.map f)=true
 | []=>rfl
 | x::r=>by
  show (plW (f x)&&plWs (r.map f))=true
  rw [h x,plWs_map h r]<;>rfl
theorem pl_enc:∀(c:Codec) (a:c.denote),plW (c.enc a)=true
 | .unit,_=>rfl
 | .bool,_=>rfl
 | .int _ _,_=>rfl
 | .nat _ _,_=>rfl
 | .u8,_=>rfl
 | .bytes _ _,_=>rfl
 | .text _ _ _ _,_=>rfl
 | .list _ _ c,a=>plWs_map (fun x=>pl_enc c x) a
 | .pair c d,a=>by
  show (plW (c.enc a.1)&&(plW (d.enc a.2)&&true))=true
  rw [pl_enc c a.1,pl_enc d a.2]<;>rfl
 | .triple c d e,a=>by
  show (plW (c.enc a.1)&&(plW (d.enc a.2.1)&&(plW (e.enc a.2.2)&&true)))=true
  rw [pl_enc c a.1,pl_enc d a.2.1,pl_enc e a.2.2]<;>rfl
 | .option c,none=>rfl
 | .option c,some x=>pl_enc c x
theorem pl_encAll:∀(cs:List Codec) (a:Codec.denoteAll cs),plWs (Codec.encAll cs a)=true
 | [],_=>rfl
 | c::cs,a=>by
  show (plW (c.enc a.1)&&plWs (Codec.encAll cs a.2))=true
  rw [pl_enc c a.1,pl_encAll cs a.2]<;>rfl
theorem weight_mem:∀{xs:List WData} {d:WData},d∈xs→d.weight≤WData.weightAll xs
 | [],d,h=>absurd h (by simp)
 | x::r,d,h=>by
  show d.weight≤x.weight + 1 + WData.weightAll r
  rcases List.mem_cons.mp h with e | m
  ·rw [e]
   omega
  ·have z:=weight_mem m
   omega
def toV:Value→V
 | .none=>.non
 | .bool b=>.bl b
 | .int i _=>.int i
 | .str x _=>.str x
 | .bytes b _=>.byt b
 | .ref a=>.ref a
 | _=>.non
def OkU (A:List Addr):Value→Prop
 | .none=>True
 | .bool _=>True
 | .int _ _=>True
 | .str _ _=>True
 | .bytes _ _=>True
 | .ref a=>a∈A
 | _=>False
theorem OkU.mono {A B:List Addr} (h:∀a∈A,a∈B):∀{u:Value},OkU A u→OkU B u:=fun {u} x=>by
 cases u with
 | ref a=>exact h a x
 | none=>trivial
 | bool b=>trivial
 | int i t=>trivial
 | str s t=>trivial
 | bytes b t=>trivial
 | _=>exact False.elim x
theorem relV_toV {A:List Addr} {u:Value} (x:OkU A u):RelV (toV u) u:=by
 cases u with
 | ref a=>rfl
 | none=>rfl
 | bool b=>rfl
 | int i t=>exact ⟨t,rfl⟩
 | str s t=>exact ⟨t,rfl⟩
 | bytes b t=>exact ⟨t,rfl⟩
 | _=>exact False.elim x
theorem vals_toV {A:List Addr}:∀{vs:List Value},(∀u∈vs,OkU A u)→Vals (vs.map toV) vs
 | [],_=>.nil
 | u::r,h=>.cons (relV_toV (h u (List.mem_cons_self ..))) (vals_toV fun x hx=>h x (List.mem_cons_of_mem _ hx))
def ArgOb (h:Heap) (A:List Addr) (a:Addr):Prop:=∃vs:List Value,vs.length≤sizeLine∧(∀u∈vs,OkU A u)∧
 (h.get? a=some {cls:=.type "list",data:=.seq vs.toArray}∨h.get? a=some {cls:=.type "tuple",data:=.seq vs.toArray})
theorem ArgOb.mono {h:Heap} {A B:List Addr} {a:Addr} (k:∀a∈A,a∈B) (x:ArgOb h A a):ArgOb h B a:=by
 obtain ⟨vs,h1,h2,h3⟩:=x
 exact ⟨vs,h1,fun u hu=>(h2 u hu).mono k,h3⟩
theorem wellAll_len {P:Params} {h:Heap}:∀{vs:List Value} {ds:List WData},WellAll P h vs ds→vs.length=ds.length
 | _,_,.nil=>rfl
 | _,_,.cons _ b=>by
  show _ + 1=_ + 1
  rw [wellAll_len b]
theorem well_list {P:Params} {h:Heap} {v:Value} {ds:List WData} (x:Well P h v (.list ds)):∃(a:Addr) (vs:List Value),v=.ref a∧h.get? a=some {cls:=.type "list",data:=.seq vs.toArray}∧WellAll P h vs ds:=by
 cases x with
 | list ho hall=>exact ⟨_,_,rfl,ho,hall⟩
theorem well_tuple {P:Params} {h:Heap} {v:Value} {ds:List WData} (x:Well P h v (.tuple ds)):∃(a:Addr) (vs:List Value),v=.ref a∧h.get? a=some {cls:=.type "tuple",data:=.seq vs.toArray}∧WellAll P h vs ds:=by
 cases x with
 | tuple ho hall=>exact ⟨_,_,rfl,ho,hall⟩
theorem well_cons {P:Params} {h:Heap} {us:List Value} {d:WData} {ds:List WData} (x:WellAll P h us (d::ds)):∃(v:Value) (vs:List Value),us=v::vs∧Well P h v d∧WellAll P h vs ds:=by
 cases x with
 | cons a b=>exact ⟨_,_,rfl,a,b⟩
theorem line_of {n:Nat} (h:n≤1048576):n≤sizeLine:=Nat.le_trans h (by decide)
section
variable {P:Params} {h:Heap}
mutual
theorem area_one:∀(d:WData) (v:Value),Well P h v d→plW d=true→d.weight≤1048576→∃A:List Addr,OkU A v∧∀a∈A,ArgOb h A a
 | .none,_,x,_,_=>by
  cases x
  exact ⟨[],trivial,fun a m=>absurd m (by simp)⟩
 | .bool b,_,x,_,_=>by
  cases x
  exact ⟨[],trivial,fun a m=>absurd m (by simp)⟩
 | .int i,_,x,_,_=>by
  cases x
  exact ⟨[],trivial,fun a m=>absurd m (by simp)⟩
 | .str s,_,x,_,_=>by
  cases x
  exact ⟨[],trivial,fun a m=>absurd m (by simp)⟩
 | .bytes b,_,x,_,_=>by
  cases x
  exact ⟨[],trivial,fun a m=>absurd m (by simp)⟩
 | .list ds,_,x,p,z=>by
  obtain ⟨a,vs,rfl,ho,hall⟩:=well_list x
  have z2:WData.weightAll ds≤1048576:=z
  obtain ⟨A,h1,h2⟩:=area_all ds _ hall p fun d hd=>Nat.le_trans (weight_mem hd) z2
  have k:∀b∈A,b∈a::A:=fun b hb=>List.mem_cons_of_mem _ hb
  refine ⟨a::A,List.mem_cons_self ..,fun b hb=>?_⟩
  rcases List.mem_cons.mp hb with e | m
  ·rw [e]
   exact ⟨vs,line_of (by rw [wellAll_len hall];exact Nat.le_trans (PySem.W.length_le_weightAllW ds) z2),fun u hu=>(h1 u hu).mono k,.inl ho⟩
  ·exact (h2 b m).mono k
 | .tuple ds,_,x,p,z=>by
  obtain ⟨a,vs,rfl,ho,hall⟩:=well_tuple x
  have z2:WData.weightAll ds≤1048576:=z
  obtain ⟨A,h1,h2⟩:=area_all ds _ hall p fun d hd=>Nat.le_trans (weight_mem hd) z2
  have k:∀b∈A,b∈a::A:=fun b hb=>List.mem_cons_of_mem _ hb
  refine ⟨a::A,List.mem_cons_self ..,fun b hb=>?_⟩
  rcases List.mem_cons.mp hb with e | m
  ·rw [e]
   exact ⟨vs,line_of (by rw [wellAll_len hall];exact Nat.le_trans (PySem.W.length_le_weightAllW ds) z2),fun u hu=>(h1 u hu).mono k,.inr ho⟩
  ·exact (h2 b m).mono k
 | .float _,_,_,p,_=>Bool.noConfusion (show false=true from p)
 | .dict _,_,_,p,_=>Bool.noConfusion (show false=true from p)
 | .bytearray _,_,_,p,_=>Bool.noConfusion (show false=true from p)
 | .set _,_,_,p,_=>Bool.noConfusion (show false=true from p)
 | .frozenset _,_,_,p,_=>Bool.noConfusion (show false=true from p)
 | .obj _ _,_,_,p,_=>Bool.noConfusion (show false=true from p)
theorem area_all:∀(ds:List WData) (vs:List Value),WellAll P h vs ds→plWs ds=true→(∀d∈ds,d.weight≤1048576)→∃A:List Addr,(∀u∈vs,OkU A u)∧∀a∈A,ArgOb h A a
 | [],_,x,_,_=>by
  cases x
  exact ⟨[],fun u m=>absurd m (by simp),fun a m=>absurd m (by simp)⟩
 | d::ds,_,x,p,z=>by
  obtain ⟨v,vs,rfl,x1,x2⟩:=well_cons x
  have q:plW d=true∧plWs ds=true:=Bool.and_eq_true_iff.mp p
  obtain ⟨A,a1,a2⟩:=area_one d v x1 q.1 (z d (List.mem_cons_self ..))
  obtain ⟨B,b1,b2⟩:=area_all ds vs x2 q.2 fun e he=>z e (List.mem_cons_of_mem _ he)
  have kA:∀b∈A,b∈A++B:=fun b hb=>List.mem_append.mpr (.inl hb)
  have kB:∀b∈B,b∈A++B:=fun b hb=>List.mem_append.mpr (.inr hb)
  refine ⟨A++B,fun u hu=>?_,fun b hb=>?_⟩
  ·rcases List.mem_cons.mp hu with e | m
   ·rw [e]
    exact a1.mono kA
   ·exact (b1 u m).mono kB
  ·rcases List.mem_append.mp hb with m | m
   ·exact (a2 b m).mono kA
   ·exact (b2 b m).mono kB
end
end
def hoOf (o:Obj):Option HO:=match o.data with
 | .seq vs _=>if (o.cls==Value.type "list")=true then some (.frz o (.lst (vs.toList.map toV))) else some (.frz o (.tup (vs.toList.map toV)))
 | _=>none
def argH (K:PySem.W.Frag) (h:Heap) (A:List Addr):Hp:=fun b=>if b∈A then (if (K.lookup b).isNone=true then (h.get? b).bind hoOf else none) else none
def OnlyF (H:Hp):Prop:=∀b,H b=none∨∃o u,H b=some (.frz o u)
theorem hoOf_lst (vs:List Value):hoOf {cls:=.type "list",data:=.seq vs.toArray}=some (.frz {cls:=.type "list",data:=.seq vs.toArray} (.lst (vs.map toV))):=by
 show (if (Value.type "list"==Value.type "list")=true then some (HO.frz {cls:=.type "list",data:=.seq vs.toArray} (.lst (vs.toArray.toList.map toV))) else some (HO.frz {cls:=.type "list",data:=.seq vs.toArray} (.tup (vs.toArray.toList.map toV))))=_
 rw [if_pos (beq_self_eq_true _)]
theorem hoOf_tup (vs:List Value):hoOf {cls:=.type "tuple",data:=.seq vs.toArray}=some (.frz {cls:=.type "tuple",data:=.seq vs.toArray} (.tup (vs.map toV))):=by
 show (if (Value.type "tuple"==Value.type "list")=true then some (HO.frz {cls:=.type "tuple",data:=.seq vs.toArray} (.lst (vs.toArray.toList.map toV))) else some (HO.frz {cls:=.type "tuple",data:=.seq vs.toArray} (.tup (vs.toArray.toList.map toV))))=_
 rw [if_neg (by decide)]
section
variable {P:Program} {w:World} {K:PySem.W.Frag} {h:Heap} {A:List Addr}
theorem argH_at {b:Addr} {o:Obj} (hb:b∈A) (hk:K.lookup b=none) (e:h.get? b=some o):argH K h A b=hoOf o:=by
 unfold argH
 rw [if_pos hb,hk,if_pos (show (none:Option Obj).isNone=true from rfl),e]<;>rfl
theorem of_argH {b:Addr} {u:HO} (q:argH K h A b=some u):b∈A∧K.lookup b=none:=by
 unfold argH at q
 by_cases hb:b∈A
 ·rw [if_pos hb] at q
  cases hk:K.lookup b with
  | none=>exact ⟨hb,rfl⟩
  | some o=>
   rw [hk,if_neg (by simp)] at q
   cases q
 ·rw [if_neg hb] at q
  cases q
theorem argH_is (ar:∀a∈A,ArgOb h A a) {b:Addr} {u:HO} (q:argH K h A b=some u):K.lookup b=none∧∃vs:List Value,vs.length≤sizeLine∧(∀u∈vs,OkU A u)∧
 ((h.get? b=some {cls:=.type "list",data:=.seq vs.toArray}∧u=.frz {cls:=.type "list",data:=.seq vs.toArray} (.lst (vs.map toV)))∨
  (h.get? b=some {cls:=.type "tuple",data:=.seq vs.toArray}∧u=.frz {cls:=.type "tuple",data:=.seq vs.toArray} (.tup (vs.map toV)))):=by
 obtain ⟨hb,hk⟩:=of_argH q
 obtain ⟨vs,h1,h2,h3⟩:=ar b hb
 refine ⟨hk,vs,h1,h2,?_⟩
 rcases h3 with e | e
 ·rw [argH_at hb hk e,hoOf_lst] at q
  exact .inl ⟨e,(Option.some.inj q).symm⟩
 ·rw [argH_at hb hk e,hoOf_tup] at q
  exact .inr ⟨e,(Option.some.inj q).symm⟩
theorem argH_only (ar:∀a∈A,ArgOb h A a):OnlyF (argH K h A):=fun b=>by
 cases q:argH K h A b with
 | none=>exact .inl rfl
 | some u=>
  obtain ⟨_,vs,_,_,⟨_,e⟩ | ⟨_,e⟩⟩:=argH_is ar q
  ·exact .inr ⟨_,_,by rw [e]⟩
  ·exact .inr ⟨_,_,by rw [e]⟩
theorem argH_ok (ar:∀a∈A,ArgOb h A a):HOk P w (argH K h A) h:=fun b u q=>by
 obtain ⟨_,vs,h1,h2,⟨e,rfl⟩ | ⟨e,rfl⟩⟩:=argH_is ar q
 ·exact ⟨e,by rw [List.length_map];exact h1,vs,_,vals_toV h2,e⟩
 ·exact ⟨e,by rw [List.length_map];exact h1,vs,vals_toV h2,_,e,rfl,_,rfl⟩
theorem seq_inj {c c':Value} {vs us:List Value} (e:(some {cls:=c,data:=.seq vs.toArray}:Option Obj)=some {cls:=c',data:=.seq us.toArray}):c=c'∧vs=us:=by
 have e1:=Option.some.inj e
 have e2:c=c':=congrArg Obj.cls e1
 have e3:Data.seq vs.toArray=Data.seq us.toArray:=congrArg Obj.data e1
 injection e3 with e4
 refine ⟨e2,?_⟩
 have e5:=congrArg Array.toList e4
 simpa using e5
theorem argL (KX:K.In h) (ar:∀a∈A,ArgOb h A a) {a:Addr} {vs:List Value} (ha:a∈A) (e:h.get? a=some {cls:=.type "list",data:=.seq vs.toArray}):(∀u∈vs,OkU A u)∧SqL K (argH K h A) a (vs.map toV):=by
 obtain ⟨us,h1,h2,h3⟩:=ar a ha
 have hu:us=vs:=by
  rcases h3 with q | q
  ·rw [e] at q
   exact (seq_inj q).2.symm
  ·rw [e] at q
   exact absurd (Value.type.inj (seq_inj q).1) (by decide)
 subst hu
 refine ⟨h2,?_⟩
 cases hk:K.lookup a with
 | none=>exact .inl (.inr ⟨_,by rw [argH_at ha hk e,hoOf_lst]⟩)
 | some o=>
  have e2:=KX a o hk
  rw [e] at e2
  obtain rfl:=Option.some.inj e2
  exact .inr ⟨_,us.toArray,_,hk,rfl,rfl,rfl,by rw [List.size_toArray];exact h1,by simpa using vals_toV h2⟩
theorem argT (KX:K.In h) (ar:∀a∈A,ArgOb h A a) {a:Addr} {vs:List Value} (ha:a∈A) (e:h.get? a=some {cls:=.type "tuple",data:=.seq vs.toArray}):(∀u∈vs,OkU A u)∧SqT K (argH K h A) a (vs.map toV):=by
 obtain ⟨us,h1,h2,h3⟩:=ar a ha
 have hu:us=vs:=by
  rcases h3 with q | q
  ·rw [e] at q
   exact absurd (Value.type.inj (seq_inj q).1) (by decide)
  ·rw [e] at q
   exact (seq_inj q).2.symm
 subst hu
 refine ⟨h2,?_⟩
 cases hk:K.lookup a with
 | none=>exact .inl (.inr ⟨_,by rw [argH_at ha hk e,hoOf_tup]⟩)
 | some o=>
  have e2:=KX a o hk
  rw [e] at e2
  obtain rfl:=Option.some.inj e2
  exact .inr ⟨_,us.toArray,_,hk,rfl,rfl,by rw [List.size_toArray];exact h1,by simpa using vals_toV h2⟩
mutual
theorem dw_one {Pm:Params} (KX:K.In h) (ar:∀a∈A,ArgOb h A a):∀(d:WData) (v:Value),Well Pm h v d→plW d=true→OkU A v→Dw K (argH K h A) (toV v) d
 | .none,_,x,_,_=>by
  cases x
  exact .non
 | .bool b,_,x,_,_=>by
  cases x
  exact .bl b
 | .int i,_,x,_,_=>by
  cases x
  exact .int i
 | .str s,_,x,_,_=>by
  cases x
  exact .str s
 | .bytes b,_,x,_,_=>by
  cases x
  have z:=Dw.byt (K:=K) (H:=argH K h A) b.toArray
  exact z
 | .list ds,_,x,p,hu=>by
  obtain ⟨a,vs,rfl,ho,hall⟩:=well_list x
  obtain ⟨h2,hs⟩:=argL KX ar hu ho
  exact .lst hs (dw_all KX ar ds _ hall p h2)
 | .tuple ds,_,x,p,hu=>by
  obtain ⟨a,vs,rfl,ho,hall⟩:=well_tuple x
  obtain ⟨h2,hs⟩:=argT KX ar hu ho
  exact .tup hs (dw_all KX ar ds _ hall p h2)
 | .float _,_,_,p,_=>Bool.noConfusion (show false=true from p)
 | .dict _,_,_,p,_=>Bool.noConfusion (show false=true from p)
 | .bytearray _,_,_,p,_=>Bool.noConfusion (show false=true from p)
 | .set _,_,_,p,_=>Bool.noConfusion (show false=true from p)
 | .frozenset _,_,_,p,_=>Bool.noConfusion (show false=true from p)
 | .obj _ _,_,_,p,_=>Bool.noConfusion (show false=true from p)
theorem dw_all {Pm:Params} (KX:K.In h) (ar:∀a∈A,ArgOb h A a):∀(ds:List WData) (vs:List Value),WellAll Pm h vs ds→plWs ds=true→(∀u∈vs,OkU A u)→DwAll K (argH K h A) (vs.map toV) ds
 | [],_,x,_,_=>by
  cases x
  exact .nil
 | d::ds,_,x,p,hu=>by
  obtain ⟨v,vs,rfl,x1,x2⟩:=well_cons x
  have q:plW d=true∧plWs ds=true:=Bool.and_eq_true_iff.mp p
  exact .cons (dw_one KX ar d v x1 q.1 (hu _ (List.mem_cons_self ..))) (dw_all KX ar ds vs x2 q.2 fun u m=>hu u (List.mem_cons_of_mem _ m))
end
end
theorem spec_call {P:Program} {w:World} {K:PySem.W.Frag} {mg mb:Str→Option Value} {CX:CXT} {k:Nat} {fa:Addr} {fd:FuncData} {ps:List Str} {sp:Sp} {s₁:Shared} {vals:List Value} {ds:List WData} {R:PySem.W.WRecords} {cl:Str→Option Addr} {d0:WData}
 (KX:K.In s₁.heap) (hns:s₁.heap.Ns mainGlobals mg) (hb:s₁.heap.Ns builtinsNs mb) (hbb:∀x:Str,x≠"__name__"→mb x=bootBuiltins x) (hlim:s₁.heap.NoLimit) (hg:s₁.gens=#[])
 (hwl:WellAll w.params s₁.heap vals ds) (hpl:plWs ds=true) (hwt:∀d∈ds,d.weight≤1048576) (hr:Room k callerA)
 (F:∀base:Heap,K.In base→base.Ns mainGlobals mg→FnOk P w K mg base CX k fa fd ps sp) (hbind:∀(s:Shared) (us:List Value),us.length=ps.length→BindsTo s fd ⟨us,[]⟩ (ps.zip us)) (hlen:ds.length=ps.length)
 (hsp:∀(H:Hp) (xs:List V),OnlyF H→DwAll K H xs ds→sp xs H (fun v H'=>Dw K H' v d0) fun _ _ _=>False)
 (hCX:∀H e s',CX [] H s₁ (fun _ _ _=>False) e s'→False):
 codeAny (model P w) callerA (.call (.ref fa) ⟨vals,[]⟩) (fun r s'=>∃u as,r=.ok (.ret u)∧ReadsW R cl s'.heap u d0 as∧OldK s₁.heap s'.heap∧s'.os=s₁.os∧AllBare s'.gens) s₁:=by
 obtain ⟨A,ho,ar⟩:=area_all ds vals hwl hpl hwt
 have hO:OnlyF (argH K s₁.heap A):=argH_only ar
 have hok:HOk P w (argH K s₁.heap A) s₁.heap:=argH_ok ar
 have hS:=dw_all KX ar ds vals hwl hpl ho
 have hV:=vals_toV ho
 have hK:∀b u,argH K s₁.heap A b=some u→K.lookup b=none:=fun b u q=>(argH_is ar q).1
 have noA:∀{b:Addr} {o:Obj} {es:Array DictEntry} {ep:Nat},s₁.heap.get? b=some o→o.data=.dict es ep→argH K s₁.heap A b=none:=fun {b o es ep} e d=>by
  cases q:argH K s₁.heap A b with
  | none=>rfl
  | some u=>
   obtain ⟨_,vs,_,_,⟨e2,_⟩ | ⟨e2,_⟩⟩:=argH_is ar q
   ·rw [e2] at e
    cases e
    have d':Data.seq vs.toArray _=Data.dict es ep:=d
    cases d'
   ·rw [e2] at e
    cases e
    have d':Data.seq vs.toArray _=Data.dict es ep:=d
    cases d'
 generalize argH K s₁.heap A=H at hO hok hS hK noA
 have base_of:∀{b:Addr} {o:Obj},s₁.heap.get? b=some o→H b=none→(hidT s₁.heap H).get? b=some o:=fun e n=>hidT_get e n
 have nsK:∀{b:Addr} {m:Str→Option Value},s₁.heap.Ns b m→(hidT s₁.heap H).Ns b m:=fun {b m} ⟨o,es,ep,e,d,r⟩=>⟨o,es,ep,base_of e (noA e d),d,r⟩
 have nK:∀b o,K.lookup b=some o→H b=none:=fun b o e=>by
  cases q:H b with
  | none=>rfl
  | some u=>
   rw [hK b u q] at e
   cases e
 have hKb:K.In (hidT s₁.heap H):=fun b o e=>base_of (KX b o e) (nK b o e)
 have hM:Mod K mg (hidT s₁.heap H):=⟨hKb,nsK hns,⟨mb,nsK hb,hbb⟩,let ⟨mc,h1,h2⟩:=hlim;⟨mc,nsK h1,h2⟩⟩
 have e0:Env0 P w K mg (hidT s₁.heap H) callerA [] s₁ H:=⟨rfl,hM,fun b o e=>of_hidT e,Nat.le_of_eq (hidT_size _ _),trivial,fun b hb=>absurd (show b∈([]:List Addr) from hb) (by simp),hok,.of_eq hg⟩
 have hl:vals.length=ps.length:=by rw [wellAll_len hwl];exact hlen
 refine codeAny_mono ((F _ hKb (nsK hns)).run callerA [] s₁ H ⟨vals,[]⟩ vals (vals.map toV) _ _ hr e0 (hbind s₁ vals hl) hV (hsp H _ hO hS)) fun r s' x=>?_
 cases r with
 | error e=>exact (hCX H e s' x).elim
 | ok fl=>
  cases fl with
  | next=>exact False.elim x
  | brk=>exact False.elim x
  | cont=>exact False.elim x
  | ret u=>
   obtain ⟨v,H',os,bare,un,hok',r',q⟩:=x
   have kept:∀b o,s₁.heap.get? b=some o→s'.heap.get? b=some o:=fun b o e=>by
    cases q2:H b with
    | none=>exact un.keep b o e q2 (by intro z;exact absurd (show b∈([]:List Addr) from z) (by simp)) (by simp)
    | some u2=>
     rcases hO b with z | ⟨ob,u3,z⟩
     ·rw [q2] at z
      cases z
     ·have z2:=un.frzs b ob _ z
      obtain ⟨e1,_⟩:=hok b _ z
      obtain ⟨e2,_⟩:=hok' b _ z2
      rw [e] at e1
      cases e1
      exact e2
   have KX':K.In s'.heap:=fun b o e=>kept b o (KX b o e)
   obtain ⟨as,hrd⟩:=Dw.reads (R:=R) (cl:=cl) hok' KX' d0 v u q r'
   exact ⟨u,as,rfl,hrd,OldK.of_keep kept,os,bare⟩
theorem layable_weight {ds:List WData} (h:WData.layableAll ds=true):∀d∈ds,d.weight≤1048576:=fun d hd=>
 (PySem.W.layableW_iff.mp (List.all_eq_true.mp h d hd)).2.2
theorem encAll_len:∀(cs:List Codec) (a:Codec.denoteAll cs),(Codec.encAll cs a).length=cs.length
 | [],_=>rfl
 | c::cs,a=>by
  show (Codec.encAll cs a.2).length + 1=cs.length + 1
  rw [encAll_len cs a.2]
theorem walk_spec {r:OpenSpec} {k:Nat} {q:Program} {loose:List Str} {XP:(Str→Option Value)→Heap→Prop} {YP:World→Heap→Prop} {d:DefRec} {K:Params→PySem.W.Frag} {CX:World→CXT} {ps:List Str} {sp:World→Sp}
 (hwell:r.wellSaid=true) (hdf:d.params.defaults=[]) (hlen:r.args.length=ps.length) (hr:Room k callerA)
 (hY:∀(w:World) (h:Heap),YP w h→(K w.params).In h)
 (F:∀(w:World) (mg:Str→Option Value) (fa:Addr) (h:Heap),YP w h→(K w.params).In h→h.Ns mainGlobals mg→mg d.name=some (.ref fa)→
  ∃fd:FuncData,(∀(s:Shared) (us:List Value),us.length=ps.length→BindsTo s fd ⟨us,[]⟩ (ps.zip us))∧
   ∀base:Heap,(K w.params).In base→base.Ns mainGlobals mg→FnOk r.prog w (K w.params) mg base (CX w) k fa fd ps (sp w))
 (hsp:∀(w:World) (H:Hp) (xs:List V) (a:Codec.denoteAll r.args),OnlyF H→Codec.withinAll r.args a=true→Codec.app r.args r.asked a=true→DwAll (K w.params) H xs (Codec.encAll r.args a)→
  sp w xs H (fun v H'=>Dw (K w.params) H' v (r.ret.enc (Codec.app r.args r.f a))) fun _ _ _=>False)
 (hCX:∀(w:World) (H:Hp) (s:Shared) (e:Value) (s':Shared),CX w [] H s (fun _ _ _=>False) e s'→False):
 PySem.W.WalkOS q loose XP YP r d [] (fun f vs=>PySem.call f vs):=by
 intro w s_0 s₁ mg mb G Y fa o pm cd doc dV kV ho hd hcd hD hmg hg args vals as hpre hlay hrd hwl hlo
 obtain ⟨a,e1,e2⟩:=PySem.W.os_pre_some hpre
 obtain ⟨e3,hwi⟩:=Codec.encAll_of_decAll r.args args a e1
 subst e3
 have KX:=hY w _ Y
 obtain ⟨fd,hb,hF⟩:=F w mg fa _ Y KX G.T.g hmg
 refine PySem.W.enter_call (codeAny_mono (spec_call (R:=[]) (cl:=classAt s_0.heap) (d0:=r.ret.enc (Codec.app r.args r.f a)) KX G.T.g G.T.b G.T.builtins G.T.nolimit hg hwl (pl_encAll _ _) (layable_weight hlay) hr hF hb (by rw [encAll_len];exact hlen)
  (fun H xs hO hS=>hsp w H xs a hO hwi e2 hS) fun H e s'=>hCX w H s₁ e s') fun r' s' hq=>?_)
 obtain ⟨u,as',rfl,h1,h2,h3,h4⟩:=hq
 exact ⟨.inl ⟨u,_,as',rfl,fun _=>rfl,h1,(OpenSpec.post_iff hwell hwi _ _).mpr rfl,fun z=>Bool.noConfusion (show false=true from z)⟩,h2,h3,h4⟩
theorem walk_specK {r:OpenSpec} {k:Nat} {q:Program} {loose:List Str} {XP:(Str→Option Value)→Heap→Prop} {YP:World→Heap→Prop} {d:DefRec} {K:Params→PySem.W.Frag} {CX:CXT} {ps:List Str} {sp:PySem.W.Frag→Sp}
 (hwell:r.wellSaid=true) (hdf:d.params.defaults=[]) (hlen:r.args.length=ps.length) (hr:Room k callerA)
 (hY:∀(w:World) (h:Heap),YP w h→(K w.params).In h)
 (F:∀(w:World) (mg:Str→Option Value) (fa:Addr) (h:Heap),YP w h→(K w.params).In h→h.Ns mainGlobals mg→mg d.name=some (.ref fa)→
  ∃fd:FuncData,(∀(s:Shared) (us:List Value),us.length=ps.length→BindsTo s fd ⟨us,[]⟩ (ps.zip us))∧
   ∀base:Heap,(K w.params).In base→base.Ns mainGlobals mg→FnOk r.prog w (K w.params) mg base CX k fa fd ps (sp (K w.params)))
 (hsp:∀(K:PySem.W.Frag) (H:Hp) (xs:List V) (a:Codec.denoteAll r.args),OnlyF H→Codec.withinAll r.args a=true→Codec.app r.args r.asked a=true→DwAll K H xs (Codec.encAll r.args a)→
  sp K xs H (fun v H'=>Dw K H' v (r.ret.enc (Codec.app r.args r.f a))) fun _ _ _=>False)
 (hCX:∀(H:Hp) (s:Shared) (e:Value) (s':Shared),CX [] H s (fun _ _ _=>False) e s'→False):
 PySem.W.WalkOS q loose XP YP r d [] (fun f vs=>PySem.call f vs):=
 walk_spec (K:=K) (CX:=fun _=>CX) (sp:=fun w=>sp (K w.params)) hwell hdf hlen hr hY F (fun w H xs a h1 h2 h3 h4=>hsp (K w.params) H xs a h1 h2 h3 h4) fun _ H s e s'=>hCX H s e s'
end L2
namespace L2
open PySem PySem.Spec PyProof.Rows
abbrev EB:List Value:=[.type "Exception",.type "BaseException",.type "object"]
theorem raise_inst {M:Model} {A:Around} {E:Value→Shared→Prop} {env:Env} {s:Shared} {x:Sem Value} {Q:Flow→Shared→Prop} (hh:A.handled=none)
 (h:wpAny M A x (fun v s1=>∃(e:Addr) (dx:Option Addr) (vs:Array Value) (sl:Array (Option Value)) (C:Addr) (nm q:Str) (N:Addr) (bs:List Value) (hdct:Bool) (sn:List Str) (sub:List Value) (ab:Bool) (col:Option Bool) (dd:Option Addr) (k0 k1 k2 k3 k5:Option Value) (newId:String),
  v=.ref e∧s1.heap.get? C=some (excClassObj nm q C N bs EB hdct sn sub ab col dd k0 k1 k2 k3 k5 newId)∧s1.heap.get? e=some ⟨.ref C,dx,.fields vs,sl⟩∧vs[1]?=some .none∧E (.ref e) s1) E s):
 wpAny M A (raiseStmt env (some x) none) Q E s:=by
 unfold raiseStmt
 refine wpAny_bind (wpAny_mono h (fun v s1 h1=>?_) fun _ _ x=>x)
 obtain ⟨e,dx,vs,sl,C,nm,q,N,bs,hdct,sn,sub,ab,col,dd,k0,k1,k2,k3,k5,newId,rfl,hC,he,hv,hE⟩:=h1
 have hcB:(Value.ref C::EB).contains (.type "BaseException")=true:=by rw [List.contains_cons];rw [show EB.contains (.type "BaseException")=true by decide +kernel,Bool.or_true]
 obtain ⟨hp,g,d,tk,os⟩:=s1
 dsimp only at hC he
 repeat (first | with_reducible refine wpAny_loadPart_at he ?_ | with_reducible refine wpAny_loadPart_at hC ?_ | (with_reducible refine wpAny_isSubtype_exc hC ?_;rw [hcB]) | (with_reducible refine wpAny_field he rfl hv ?_) | wp_step)
 exact wpAny_raiseNew_none hh hE
section
variable {prog:Program} {w:World} {A:Around} {E:Value→Shared→Prop} {s:Shared} {K:PySem.W.Frag} {x C:Addr} {ox:Obj} {od:Option Obj} {name:Str} {v:Value}
theorem exc_entry {tk:Tok} {Q:Fin→Shared→Prop} (X:K.In s.heap) (I:PySem.W.InstAt s.heap x ox C od) (hf:PySem.W.findObj K C od name=some (.value v)) (hq:Q (.done (.ret v)) s):
 wpAny (model prog w) A (Builtin.«object.__getattribute__» ⟨[.ref x,.str name tk],[]⟩) Q E s:=by
 have L0:=I.type (M:=model prog w)
 have L1:=PySem.W.looks_find (M:=model prog w) X I hf
 unfold Builtin.«object.__getattribute__»
 refine wpAny_bind (wpAny_pure ?_)
 refine wpAny_bind (wpAny_pure ?_)
 refine wpAny_bind (L0.here (wpAny_bind (L1.here ?_)))
 exact wpAny_pure hq
theorem exc_get {expr:Bool} {Q:Value→Shared→Prop} (X:K.In s.heap) (I:PySem.W.InstAt s.heap x ox C od) (hga:PySem.W.findIn K (.ref C) "__getattribute__"=some (some (.builtin "BaseException.__getattribute__")))
 (hgh:PySem.W.findIn K (.ref C) "__getattr__"=some none) (hm:PySem.W.mroIn K C (.type "BaseException")=some true) (hf:PySem.W.findObj K C od name=some (.value v)) (hh:PySem.W.handedIn v=true) (h:Q v {s with toks:=s.toks + 1}):
 wpAny (model prog w) A (getAttr (.ref x) name expr) Q E s:=by
 obtain ⟨hp,g,d,t,os⟩:=s
 have L0:=I.type (M:=model prog w)
 have L1:=PySem.W.looks_findIn (M:=model prog w) X hga
 have L2:=PySem.W.looks_findIn (M:=model prog w) X hgh
 have L3:PySem.W.Looks (model prog w) hp (isInstance (.ref x) (.type "BaseException")) true:=L0.andThen (PySem.W.looks_mroIn X hm)
 have hk:builtinKind "BaseException.__getattribute__"=some .slot:=by decide +kernel
 have hsplit:splitId "BaseException.__getattribute__"=some ("BaseException","__getattribute__"):=by decide +kernel
 unfold getAttr getAttrBy
 refine wpAny_bind (wpAny_mkText (wpAny_holding (wpAny_bind (L0.at (wpAny_bind (L1.at ?_))))))
 show wpAny _ _ (getAttrByItsOwn _ _ _ _ _ _) _ _ _
 unfold getAttrByItsOwn
 refine wpAny_bind (L2.at (wpAny_bind (wpAny_attempt (wpAny_holding ?_))))
 have e1:callGetattribute (.ref x) (.str name t) (.builtin "BaseException.__getattribute__") expr=boundAndCalled (.builtin "BaseException.__getattribute__") (.ref x) (.str name t):=by
  unfold callGetattribute
  rw [show (expr&&onTheHeap (Value.builtin "BaseException.__getattribute__"))=false by cases expr<;>rfl]
  rfl
 rw [e1]
 unfold boundAndCalled
 rw [PySem.F.attr_Exception.ga.bind]
 refine wpAny_bind (wpAny_pure ?_)
 have hc:codeAny (model prog w) A (.call (.builtin "BaseException.__getattribute__") ⟨[.ref x,.str name t],[]⟩) (fun r s'=>match r with | .ok (.ret u)=>u=v∧s'=⟨hp,g,d,t + 1,os⟩ | _=>False) ⟨hp,g,d,t + 1,os⟩:=
  codeAny_call_builtin PySem.F.attr_Exception.ga.plain PySem.F.entry_bexc_ga (@PySem.W.check_slot (model prog w) _ _ _ "BaseException.__getattribute__" "BaseException" "__getattribute__" (.ref x) [.str name t] [] _ hk hsplit L3 (PySem.F.args_bexc_ga (.ref x) (.str name t))
   (exc_entry (s:=⟨hp,g,d,t + 1,os⟩) X I hf ⟨rfl,rfl⟩))
 refine wpAny_call (codeAny_mono hc fun r s' z=>?_)
 cases r with
 | error e=>exact z.elim
 | ok f=>
  cases f with
  | ret u=>
   obtain ⟨rfl,rfl⟩:=z
   show wpAny _ _ (handedOut _) _ _ _
   rw [PySem.W.handedOut_of hh]
   exact wpAny_pure h
  | next=>exact z.elim
  | brk=>exact z.elim
  | cont=>exact z.elim
end
section
variable {prog:Program} {w:World} {A:Around} {E:Value→Shared→Prop} {h:Heap} {g:Array GenState} {d:Drawn} {t:Nat} {os:OsState}
variable {nm q:Str} {C N e:Addr} {bs:List Value} {hdct:Bool} {sn:List Str} {sub:List Value} {ab:Bool} {col:Option Bool} {dd:Option Addr} {k0 k1 k2 k3 k5:Option Value} {dx:Option Addr} {vs:Array Value} {sl:Array (Option Value)} {v:Value}
theorem exc_init {Q:Value→Shared→Prop} (hC:h.get? C=some (excClassObj nm q C N bs EB hdct sn sub ab col dd k0 k1 k2 k3 k5 "Exception.__new__")) (he:h.get? e=some ⟨.ref C,dx,.fields vs,sl⟩) {t0:Addr} (h0:vs[0]?=some (.ref t0))
 (hq:∀h' (t':Addr),(∀b o,b≠e→h.get? b=some o→h'.get? b=some o)→h'.get? e=some ⟨.ref C,dx,.fields (vs.setIfInBounds 0 (.ref t')),sl⟩→Q .none ⟨h',g,d,t,os⟩):
 wpAny (model prog w) A (call (.builtin "Exception.__init__") [.ref e,v]) Q E ⟨h,g,d,t,os⟩:=by
 have F:=PySem.F.excBase_Exception
 refine wpAny_call (codeAny_call_builtin F.init.plain F.initEntry (wpAny_check_init_sub F hC he rfl ?_))
 wp_walk
 rw [h0]
 have hz:0 < vs.size:=(Array.getElem?_eq_some_iff.mp h0).1
 have he1:(h.push {cls:=Value.type "tuple",data:=Data.seq #[v]}).get? e=some ⟨.ref C,dx,.fields vs,sl⟩:=Heap.get?_push_of_some _ he
 refine wpAny_pure (wpAny_bind (wpAny_setField he1 rfl hz ?_))
 wp_walk
 refine hq _ h.objs.size (fun b o hb hg=>?_) ?_
 ·exact (Heap.get?_update_other _ _ (Ne.symm hb)).trans (Heap.get?_push_of_some _ hg)
 ·exact Heap.get?_update_self _ he1 rfl
end
section
open Builtin Builtin.ObjectAttr
variable {prog:Program} {w:World} {A:Around} {E:Value→Shared→Prop} {h:Heap} {g:Array GenState} {d:Drawn} {t:Nat} {os:OsState}
variable {nm q:Str} {C N x:Addr} {bs:List Value} {sn:List Str} {sub:List Value} {ab:Bool} {col:Option Bool} {dd:Option Addr} {k0 k1 k2 k3 k5:Option Value} {newId:String}
 {mN:Str→Option Value} {name:Str} {v:Value} {vs:Array Value} {sl:Array (Option Value)}
theorem exc_put {tk:Tok} {Q:Fin→Shared→Prop} (hC:h.get? C=some (excClassObj nm q C N bs EB true sn sub ab col dd k0 k1 k2 k3 k5 newId)) (hn:h.Ns N mN) (hna:mN name=none) (hB:typeLookup (.type "Exception") name=pure none)
 {o:Obj} (hx:h.get? x=some o) (hc:o.cls=.ref C) (hdn:o.dict=none) (hdt:o.data=.fields vs)
 (hq:∀h' tk',(∀b o,b≠x→h.get? b=some o→h'.get? b=some o)→h'.get? x=some {o with dict:=some h.objs.size}→h'.Ns1 h.objs.size (fun y=>if y=name then some v else none)→Q (.done (.ret .none)) ⟨h',g,d,tk',os⟩):
 wpAny (model prog w) A (Builtin.«object.__setattr__» ⟨[.ref x,.str name tk,v],[]⟩) Q E ⟨h,g,d,t,os⟩:=by
 have pass:=PySem.F.store_Exception.passes (.ref x)
 unfold Builtin.«object.__setattr__»
 repeat (first | rw [refuse_eq] | (rw [refuseLoop_ref,pass]) | (with_reducible refine wpAny_loadPart_at hx ?_;rw [hc]) | with_reducible refine wpAny_mroOf_exc hC ?_ | (with_reducible refine wpAny_typeLookup_exc hC hn PySem.F.store_Exception.mro hB ?_;rw [hna]) | wp_step)
 rw [hdn,if_neg (by simp [typeHasDict])]
 split
 ·rename_i z
  cases z
 split
 ·rename_i c z
  rw [hdt] at z
  cases z
 have x1:(h.push {cls:=.type "dict",data:=.dict #[]}).get? x=some o:=Heap.get?_push_of_some _ hx
 have xs:x≠h.objs.size:=Nat.ne_of_lt (Heap.lt_size hx)
 refine wpAny_bind (wpAny_alloc' ?_)
 refine wpAny_bind (wpAny_update' x1 ?_)
 refine wpAny_pure ?_
 generalize hg2:((h.push {cls:=.type "dict",data:=.dict #[]}).update x fun o=>{cls:=o.cls,dict:=some h.objs.size,data:=o.data,slots:=o.slots})=g2
 have gd:g2.get? h.objs.size=some {cls:=.type "dict",data:=.dict #[]}:=by
  rw [←hg2]
  exact (Heap.get?_update_ne _ _ _ _ xs.symm).trans (Heap.get?_push_at rfl rfl)
 have gx:g2.get? x=some {o with dict:=some h.objs.size}:=by
  rw [←hg2]
  refine Heap.get?_update_self _ x1 ?_
  obtain ⟨oc,od,odt,osl⟩:=o
  cases hdt
  rfl
 have go:∀b o,b≠x→h.get? b=some o→g2.get? b=some o:=fun b o hb hgb=>by
  rw [←hg2]
  exact (Heap.get?_update_ne _ _ _ _ hb).trans (Heap.get?_push_of_some _ hgb)
 have nd:g2.Ns h.objs.size (fun _=>none):=⟨_,#[],_,gd,rfl,fun e he=>absurd he (by simp),fun _=>rfl⟩
 show wpAny _ _ (storeInDict h.objs.size (.str name tk) name v) _ _ _
 unfold storeInDict newKeyGuard
 refine wpAny_bind (wpAny_pure (wpAny_bind (wpAny_nsSet1 (Heap.Ns1.of_empty nd) fun h' hn' hs=>?_)))
 obtain ⟨oD,esD,epD,hoD,hdD,hcD⟩:=hn'.count (Within.cons name v Within.nil)
 refine wpAny_bind (wpAny_lookBehind hoD (by rw [hdD];exact pastItsLine_dict (Nat.le_trans hcD (by rw [List.length_cons,List.length_nil,sizeLine_eq];omega))) ?_)
 wp_walk
 exact hq h' _ (fun b o hb hgb=>(hs.2 b (Nat.ne_of_lt (Heap.lt_size hgb))).trans (go b o hb hgb)) ((hs.2 x xs).trans gx) hn'
theorem exc_putc {tk:Tok} {R:Result→Shared→Prop} {sa owner:String} (SF:StoreFacts "Exception" EB sa owner) (hC:h.get? C=some (excClassObj nm q C N bs EB true sn sub ab col dd k0 k1 k2 k3 k5 newId)) (hn:h.Ns N mN) (hna:mN name=none) (hB:typeLookup (.type "Exception") name=pure none)
 {o:Obj} (hx:h.get? x=some o) (hc:o.cls=.ref C) (hdn:o.dict=none) (hdt:o.data=.fields vs)
 (hq:∀h' tk',(∀b o,b≠x→h.get? b=some o→h'.get? b=some o)→h'.get? x=some {o with dict:=some h.objs.size}→h'.Ns1 h.objs.size (fun y=>if y=name then some v else none)→R (.ok (.ret .none)) ⟨h',g,d,tk',os⟩):
 codeAny (model prog w) A (.call (.builtin sa) ⟨[.ref x,.str name tk,v],[]⟩) R ⟨h,g,d,t,os⟩:=
 codeAny_call_builtin SF.slot.plain SF.entry (wpAny_check_sa SF hC hx hc (exc_put hC hn hna hB hx hc hdn hdt hq))
theorem exc_set_of {Q:Unit→Shared→Prop} {sa owner:String} (SF:StoreFacts "Exception" EB sa owner) (hC:h.get? C=some (excClassObj nm q C N bs EB true sn sub ab col dd k0 k1 k2 k3 k5 newId)) (hn:h.Ns N mN) (hns:mN "__setattr__"=none) (hna:mN name=none) (hB:typeLookup (.type "Exception") name=pure none)
 {o:Obj} (hx:h.get? x=some o) (hc:o.cls=.ref C) (hdn:o.dict=none) (hdt:o.data=.fields vs)
 (hq:∀h' tk',(∀b o,b≠x→h.get? b=some o→h'.get? b=some o)→h'.get? x=some {o with dict:=some h.objs.size}→h'.Ns1 h.objs.size (fun y=>if y=name then some v else none)→Q () ⟨h',g,d,tk',os⟩):
 wpAny (model prog w) A (setAttr (.ref x) name v) Q E ⟨h,g,d,t,os⟩:=by
 have f3:=SF.slot.bind (.ref x)
 unfold setAttr callSpecial? specialOf
 repeat (any_goals (first | assumption | (with_reducible refine wpAny_loadPart_at hx ?_;rw [hc]) | (with_reducible refine wpAny_typeLookup_exc hC hn SF.mro SF.slot.lookup ?_;rw [hns]) | wp_step))
 refine exc_putc SF hC hn hna hB hx hc hdn hdt fun h' tk' k1 k2 k3=>?_
 repeat (any_goals (first | assumption | wp_step))
 exact hq h' tk' k1 k2 k3
end
end L2
namespace L2
open PySem
structure Noted (fs:List Addr) (e:Addr) (old:List Addr) (h h':Heap):Prop where
 size:h.objs.size≤h'.objs.size
 keep:∀b o,h.get? b=some o→b ∉ fs→b≠e→b ∉ old→h'.get? b=some o
 slot:∀b o,h.get? b=some o→b∈fs→∃sl,h'.get? b=some {o with slots:=sl}
 exc:∀oe vs,h.get? e=some oe→oe.data=.fields vs→∃vs' T oT ts,h'.get? e=some {oe with data:=.fields vs'}∧vs'[1]?=some (.ref T)∧h.objs.size≤T∧T≠e∧
  h'.get? T=some oT∧oT.data=.fields ts∧ts[3]?=some .none∧(∀v,oT.data≠.cell v)
def Entry (h:Heap) (e:Addr) (vs:Array Value) (old:List Addr):Prop:=
 (vs[1]?=some .none∧old=[])∨∃T oT ts,vs[1]?=some (.ref T)∧T≠e∧h.get? T=some oT∧oT.data=.fields ts∧ts[3]?=some .none∧old=[T]
section
variable {M:Model} {A:Around} {E:Value→Shared→Prop} {s:Shared} {base:Heap} {env:Env} {outer:List Env} {L e:Addr} {oe:Obj} {vs:Array Value} {Q:Unit→Shared→Prop}
theorem mapF_eq {o:Obj} {ws:Array Value} (f:Array Value→Array Value) (hd:o.data=.fields ws):Obj.mapFields f o={o with data:=.fields (f ws)}:=by
 obtain ⟨c,d,dt,sl⟩:=o
 cases hd
 rfl
theorem note_tail {head:Value} {hadNext:Bool} (hfr:A.frames=some (env::outer)) (hl:s.heap.FunFrames base (env::outer)) (hf:env.frame=some L) (he:s.heap.get? e=some oe) (hd:oe.data=.fields vs) (hz:1 < vs.size)
 (h:∀h',Noted ((env::outer).filterMap (·.frame)) e [] s.heap h'→Q () {s with heap:=h'}):
 wpAny M A (do setField (.ref e) 1 (←EntryCells.newEntry head (←frameOf env) .none (rawInt L) .none (←entryPlaceOf L hadNext))) (fun _ s2=>wpAny M A (setFlight (.ref e) none) Q E s2) E s:=by
 have nfr:e ∉ (env::outer).filterMap (·.frame):=fun hm=>by
  obtain ⟨_,o,ho,hx⟩:=hl.mem hm
  rw [he] at ho
  cases ho
  exact hx vs hd
 refine wpAny_bind (wpAny_frameOf_fun hfr hl hf fun g k=>?_)
 refine wpAny_bind (wpAny_entryPlaceOf fun pl hpl=>?_)
 unfold EntryCells.newEntry newFields
 refine wpAny_bind (wpAny_newObj_type ?_ (hpl.sizeOk5 _ _ _ _ _))
 generalize hcs:([head,Value.ref L,Value.none,rawInt L,Value.none]++(if pl.isEmpty then List.replicate 6 Value.none else pl)).toArray=cells
 have c3:3 < cells.size:=by rw [←hcs];simp only [List.size_toArray,List.length_append,List.length_cons,List.length_nil];omega
 have e1:g.get? e=some oe:=(k.2.1 e nfr).trans he
 have e2:(g.push {cls:=.type "traceback",dict:=none,data:=.fields cells}).get? e=some oe:=Heap.get?_push_of_some _ e1
 have nT:g.objs.size≠e:=Nat.ne_of_gt (Heap.lt_size e1)
 have d3:=Obj.data_mapFields hd (·.setIfInBounds 1 (Value.ref g.objs.size))
 have e3:=Heap.get?_update_self (Obj.mapFields (·.setIfInBounds 1 (Value.ref g.objs.size))) e2 (Obj.isFreed_of_fields d3)
 have t3:((g.push {cls:=.type "traceback",dict:=none,data:=.fields cells}).update e (Obj.mapFields (·.setIfInBounds 1 (Value.ref g.objs.size)))).get? g.objs.size=some {cls:=.type "traceback",dict:=none,data:=.fields cells}:=
  (Heap.get?_update_other _ _ (Ne.symm nT)).trans (Heap.get?_push_size g rfl)
 refine wpAny_setField e2 hd hz ?_
 unfold setFlight
 refine wpAny_bind (wpAny_field e3 d3 (x:=.ref g.objs.size) (by simp [hz]) ?_)
 rw [if_pos (show (Value.ref g.objs.size != Value.none)=true from by simp)]
 refine wpAny_setField t3 rfl c3 (h _ ?_)
 have other:∀b o,b≠e→g.get? b=some o→(((g.push {cls:=.type "traceback",dict:=none,data:=.fields cells}).update e (Obj.mapFields (·.setIfInBounds 1 (Value.ref g.objs.size)))).update g.objs.size
  (Obj.mapFields (·.setIfInBounds 3 ((none:Option Addr).elim Value.none fun f=>rawInt f)))).get? b=some o:=fun b o hbe hb=>by
  have q:g.objs.size≠b:=Nat.ne_of_gt (Heap.lt_size hb)
  rw [Heap.get?_update_other _ _ q,Heap.get?_update_other _ _ (Ne.symm hbe)]
  exact Heap.get?_push_of_some _ hb
 refine ⟨?_,fun b o hb hn hbe _=>other b o hbe ((k.2.1 b hn).trans hb),fun b o hb hm=>?_,fun oe' vs' he' hd'=>?_⟩
 ·rw [Heap.size_after_update,Heap.size_after_update,Heap.size_push,k.1]
  exact Nat.le_succ _
 ·obtain ⟨sl,q⟩:=k.2.2 b o hb
  exact ⟨sl,other b _ (fun z=>nfr (z▸hm)) q⟩
 ·rw [he] at he'
  cases he'
  rw [hd] at hd'
  cases hd'
  have d4:(Obj.mapFields (·.setIfInBounds 3 ((none:Option Addr).elim Value.none fun f=>rawInt f)) {cls:=Value.type "traceback",dict:=none,data:=.fields cells}).data=.fields (cells.setIfInBounds 3 .none):=rfl
  refine ⟨_,g.objs.size,_,_,(Heap.get?_update_other _ _ nT).trans (e3.trans (congrArg some (mapF_eq _ hd))),by simp [hz],Nat.le_of_eq k.1.symm,nT,Heap.get?_update_self _ t3 (Obj.isFreed_of_fields d4),d4,?_,fun v q=>?_⟩
  ·simp [c3]
  ·rw [d4] at q
   cases q
theorem note_land {old:List Addr} (hfr:A.frames=some (env::outer)) (hl:s.heap.FunFrames base (env::outer)) (hf:env.frame=some L) (he:s.heap.get? e=some oe) (hd:oe.data=.fields vs) (ht:Entry s.heap e vs old)
 (h:∀h',Noted ((env::outer).filterMap (·.frame)) e old s.heap h'→Q () {s with heap:=h'}):
 wpAny M A (noteFrame (.ref e) env) (fun _ s2=>wpAny M A (setFlight (.ref e) none) Q E s2) E s:=by
 unfold noteFrame
 simp only [hf]
 rcases ht with ⟨h1,rfl⟩ | ⟨T,oT,ts,h1,hTe,hT,hdT,h3,rfl⟩
 ·refine wpAny_bind (wpAny_field he hd h1 ?_)
  rw [if_neg (by decide)]
  exact note_tail hfr hl hf he hd (Array.getElem?_eq_some_iff.mp h1).1 h
 ·refine wpAny_bind (wpAny_field he hd h1 ?_)
  rw [if_pos (show (Value.ref T != Value.none)=true from by simp)]
  refine wpAny_bind (wpAny_field hT hdT h3 ?_)
  rw [if_neg (show ¬((Value.none==rawInt L)=true) from by simp [rawInt])]
  refine wpAny_bind (wpAny_setField hT hdT (Array.getElem?_eq_some_iff.mp h3).1 ?_)
  have ot:∀b,b≠T→(s.heap.update T (Obj.mapFields (·.setIfInBounds 3 Value.none))).get? b=s.heap.get? b:=fun b hb=>Heap.get?_update_other _ _ (Ne.symm hb)
  have nTf:∀b,b∈(env::outer).filterMap (·.frame)→b≠T:=fun b hm z=>by
   obtain ⟨_,o,ho,hx⟩:=hl.mem hm
   rw [z,hT] at ho
   cases ho
   exact hx ts hdT
  have he1:=(ot e (Ne.symm hTe)).trans he
  refine note_tail (s:={s with heap:=s.heap.update T (Obj.mapFields (·.setIfInBounds 3 Value.none))}) hfr (hl.of_keeps fun b o hb hx=>⟨o,(ot b fun z=>by rw [z,hT] at hb;cases hb;exact hx ts hdT).trans hb,rfl⟩) hf he1 hd (Array.getElem?_eq_some_iff.mp h1).1
   fun h' N=>h h' ⟨?_,fun b o hb hn hbe ho=>N.keep b o ((ot b fun z=>ho (by simp [z])).trans hb) hn hbe (by simp),fun b o hb hm=>N.slot b o ((ot b (nTf b hm)).trans hb) hm,fun oe' vs' he' hd'=>?_⟩
  ·have:=N.size
   rwa [Heap.size_after_update] at this
  ·obtain ⟨a1,a2,a3,a4,x1,x2,x3,x4⟩:=N.exc oe' vs' ((ot e (Ne.symm hTe)).trans he') hd'
   exact ⟨a1,a2,a3,a4,x1,x2,by rwa [Heap.size_after_update] at x3,x4⟩
theorem leave_land {old:List Addr} (hfr:A.frames=some (env::outer)) (hl:s.heap.FunFrames base (env::outer)) (hf:env.frame=some L) (he:s.heap.get? e=some oe) (hd:oe.data=.fields vs) (ht:Entry s.heap e vs old)
 (h:∀h',Noted ((env::outer).filterMap (·.frame)) e old s.heap h'→Q () {s with heap:=h'}):wpAny M A (leaving env (.ref e)) Q E s:=by
 unfold leaving
 exact wpAny_bind (note_land hfr hl hf he hd ht h)
end
end L2
namespace L2
open PySem PySem.Spec PyProof.Rows
def ExcOb (cls:Value) (dx:Option Addr) (a:Addr):Heap→Prop:=fun h=>∃vs sl,h.get? a=some ⟨cls,dx,.fields vs,sl⟩
def ExcNew (cls:Value) (dx:Option Addr) (a:Addr):Heap→Prop:=fun h=>∃t0 vs sl,h.get? a=some ⟨cls,dx,.fields vs,sl⟩∧vs[0]?=some (.ref t0)∧vs[1]?=some .none
section
variable {P:Program} {w:World} {H:Hp} {h h':Heap} {a:Addr} {cls:Value} {dx:Option Addr} {o:HO}
theorem ExcOb.ok (x:ExcOb cls dx a h):ObjOk P w H h a (.ext (ExcOb cls dx a)):=
 ⟨x,let ⟨_,_,e⟩:=x;⟨_,e⟩,fun _ _ ⟨vs,sl,e⟩ k=>⟨vs,sl,k _ e⟩⟩
theorem ExcNew.ok (x:ExcNew cls dx a h):ObjOk P w H h a (.ext (ExcNew cls dx a)):=
 ⟨x,let ⟨_,_,_,e,_⟩:=x;⟨_,e⟩,fun _ _ ⟨t0,vs,sl,e,r⟩ k=>⟨t0,vs,sl,k _ e,r⟩⟩
theorem ObjOk.there (x:ObjOk P w H h a o):∃u,h.get? a=some u:=by
 cases o with
 | lst xs=>obtain ⟨_,_,_,_,e⟩:=x;exact ⟨_,e⟩
 | tup xs=>obtain ⟨_,_,_,u,e,_⟩:=x;exact ⟨_,e⟩
 | dK kvs=>obtain ⟨_,_,_,_,u,_,_,e,_⟩:=x;exact ⟨_,e⟩
 | dT kvs=>obtain ⟨_,_,_,_,u,_,_,e,_⟩:=x;exact ⟨_,e⟩
 | set S n=>obtain ⟨u,_,_,_,e,_⟩:=x;exact ⟨_,e⟩
 | ins C dx fs=>obtain ⟨_,_,_,e,_⟩:=x;exact ⟨_,e⟩
 | own y=>exact x
 | xd fs=>obtain ⟨_,⟨u,_,_,e,_⟩,_⟩:=x;exact ⟨_,e⟩
 | rng lo hi=>obtain ⟨_,_,_,e⟩:=x;exact ⟨_,e⟩
 | frz ob u=>obtain ⟨e,_⟩:=x;exact ⟨_,e⟩
 | tbl ps=>exact ⟨_,(show h.get? a=some _ from x)⟩
 | met f y=>exact ⟨_,(show h.get? a=some _ from x)⟩
 | ext φ=>obtain ⟨_,e,_⟩:=x;exact e
theorem HOk.none_of (x:HOk P w H h) (e:h.get? a=none):H a=none:=by
 cases q:H a with
 | none=>rfl
 | some u=>
  obtain ⟨v,z⟩:=(x a u q).there
  rw [e] at z
  cases z
theorem HOk.lay (x:HOk P w H h) (k:∀b u,h.get? b=some u→h'.get? b=some u) (hp:h.get? a=none) (new:ObjOk P w (upd H a o) h' a o):HOk P w (upd H a o) h':=fun b u e=>by
 have hn:=x.none_of hp
 by_cases hb:b=a
 ·subst hb;rw [upd_same] at e;cases e;exact new
 ·rw [upd_ne hb] at e
  refine (x b u e).stay (fun c v _ q=>k c v q) (fun c q=>?_) fun c xs q=>?_
  ·rw [upd_ne (ne_of_none q hn)];exact q
  ·rw [upd_ne (ne_of_none q hn)];exact q
theorem Un.lay {fs ex:List Addr} (k:∀b u,h.get? b=some u→h'.get? b=some u) (hp:h.get? a=none) (hn:H a=none):Un fs ex H (upd H a o) h h' where
 keep:=fun b u q _ _ _=>k b u q
 slot:=fun b u q _ _ _=>⟨u.slots,k b u q⟩
 free:=fun b u q n _=>by
  rw [upd_ne fun z=>by rw [z,hp] at q;cases q]
  exact n
 there:=fun b u q _=>⟨u,k b u q⟩
 tups:=fun b xs q=>by rw [upd_ne (ne_of_none q hn)];exact q
 frzs:=fun b u xs q=>by rw [upd_ne (ne_of_none q hn)];exact q
 tbls:=fun b ps q=>⟨#[],by rw [upd_ne (ne_of_none q hn),q];simp⟩
end
section
variable {X:Cx} {pins:List (Addr×Obj)} {σ:St} {H:Hp} {s:Shared} {h':Heap}
theorem Inv.lay {a:Addr} {o:HO} {t':Nat} (I:Inv X pins σ H s) (k:∀b u,s.heap.get? b=some u→h'.get? b=some u) (hp:s.heap.get? a=none) (new:ObjOk X.prog X.w (upd H a o) h' a o):
 Inv X pins σ (upd H a o) {s with heap:=h',toks:=t'}:=I.un (Un.lay k hp (I.hok.none_of hp)) (I.hok.lay k hp new)
theorem Inv.again {a:Addr} {φ ψ:Heap→Prop} (I:Inv X pins σ H s) (e:H a=some (.ext φ)) (new:∀H',ObjOk X.prog X.w H' s.heap a (.ext ψ)):Inv X pins σ (upd H a (.ext ψ)) s:=
 (I.write (x:=a) (e:=a) (h':=s.heap) (t':=s.toks) (by rw [e];exact True.intro) (.inl rfl) (fun _ _ _ q=>q) ((I.hok a _ e).there) (new _))
end
structure Flies (N:Addr→Prop) (H:Hp) (h:Heap) (e:Addr) (cls:Value) (dx:Option Addr):Prop where
 trk:H e=some (.ext (ExcOb cls dx e))
 obj:∃vs sl old,h.get? e=some ⟨cls,dx,.fields vs,sl⟩∧Entry h e vs old∧∀T∈old,¬N T∧H T=none
theorem Flies.mono {N N':Addr→Prop} {H:Hp} {h:Heap} {e:Addr} {cls:Value} {dx:Option Addr} (x:Flies N H h e cls dx) (k:∀b,N' b→N b):Flies N' H h e cls dx:=
 ⟨x.trk,let ⟨vs,sl,old,a,b,c⟩:=x.obj;⟨vs,sl,old,a,b,fun T hT=>⟨fun z=>(c T hT).1 (k T z),(c T hT).2⟩⟩⟩
def LiveIn (h:Heap) (b:Addr):Prop:=∃o,h.get? b=some o
def CXe (P:Program) (w:World):CXT:=fun outer H s E e s'=>∃(ea:Addr) (cls:Value) (dx:Option Addr) (H':Hp),e=.ref ea∧s'.os=s.os∧AllBare s'.gens∧Un (frs outer) [] H H' s.heap s'.heap∧HOk P w H' s'.heap∧
 Flies (LiveIn s.heap) H' s'.heap ea cls dx∧E cls dx H'
def Old (X:Cx) (pins:List (Addr×Obj)) (b:Addr):Prop:=LiveIn X.s_0.heap b∨∃p∈X.pn++pins,p.1=b
def Throws (X:Cx) (E:XK):Prop:=∀(pins:List (Addr×Obj)) (σ:St) (H:Hp) (s:Shared) (e:Addr) (cls:Value) (dx:Option Addr),Inv X pins σ H s→Flies (Old X pins) H s.heap e cls dx→E cls dx H→X.xe (.ref e) s
theorem Throws.passes {X:Cx} {E:XK} (T:Throws X E) (hex:X.ex=[]:=by rfl):Passes (CXe X.prog X.w) X E:=by
 intro pins σ H s e s' I ⟨ea,cls,dx,H',he,os,bare,un,hok,fl,q⟩
 subst he
 have J:Inv X pins σ H' s':=I.call' (ch:=[]) os un hok bare fun b z=>absurd z (by simp)
 refine T pins σ H' s' ea cls dx J (fl.mono fun b hb=>?_) q
 rcases hb with ⟨o,ho⟩ | ⟨p,hp,rfl⟩
 ·exact I.base.there b o ho (by rw [hex];simp)
 ·exact ⟨_,(I.pin p hp).1⟩
theorem noted_un {fs':List Addr} {fs:List Addr} {H0 H:Hp} {h0 h h':Heap} {e:Addr} {old:List Addr} {L:Addr} (u:Un fs' [] H0 H h0 h) (N:Noted fs e old h h') (hfs:∀b∈fs,b=L∨b∈fs') (hfs':∀b∈fs',b∈fs)
 (hL:∀o,h0.get? L=some o→False) (trk:∃x,H e=some x) (rec:∃oe vs,h.get? e=some oe∧oe.data=.fields vs) (nold:∀T∈old,¬LiveIn h0 T):Un fs' [] H0 H h0 h':=by
 have ne:∀b o,h0.get? b=some o→H0 b=none→b≠e:=fun b o q n z=>by
  obtain ⟨x,hx⟩:=trk
  have:=u.free b o q n (by simp)
  rw [z,hx] at this
  cases this
 have no:∀b o,h0.get? b=some o→b ∉ old:=fun b o q z=>nold b z ⟨o,q⟩
 have nf:∀b o,h0.get? b=some o→b ∉ fs'→b ∉ fs:=fun b o q z y=>by
  rcases hfs b y with r | r
  ·rw [r] at q;exact hL o q
  ·exact z r
 refine ⟨fun b o q n hb _=>N.keep b o (u.keep b o q n hb (by simp)) (nf b o q hb) (ne b o q n) (no b o q),fun b o q n hb _=>?_,u.free,fun b o q hx=>?_,u.tups,u.frzs,u.tbls⟩
 ·obtain ⟨sl,r⟩:=u.slot b o q n hb (by simp)
  obtain ⟨sl',r'⟩:=N.slot b _ r (hfs' b hb)
  exact ⟨sl',r'⟩
 ·obtain ⟨o',r⟩:=u.there b o q hx
  by_cases hb:b∈fs
  ·obtain ⟨sl,r'⟩:=N.slot b o' r hb
   exact ⟨_,r'⟩
  ·by_cases hbe:b=e
   ·obtain ⟨oe,vs,r1,r2⟩:=rec
    obtain ⟨_,_,_,_,r3,_⟩:=N.exc oe vs r1 r2
    rw [hbe]
    exact ⟨_,r3⟩
   ·exact ⟨_,N.keep b o' r hb hbe (no b o q)⟩
theorem noted_hok {P:Program} {w:World} {fs:List Addr} {H:Hp} {h h':Heap} {e:Addr} {old:List Addr} {cls:Value} {dx:Option Addr} (x:HOk P w H h) (N:Noted fs e old h h') (hfs:∀b∈fs,H b=none) (trk:H e=some (.ext (ExcOb cls dx e)))
 (nold:∀T∈old,H T=none):HOk P w H h':=fun b u hu=>by
 by_cases hb:b=e
 ·subst hb
  rw [trk] at hu
  cases hu
  obtain ⟨⟨vs,sl,r⟩,_⟩:=x b _ trk
  obtain ⟨vs',_,_,_,r3,_⟩:=N.exc _ vs r rfl
  exact ExcOb.ok ⟨vs',sl,r3⟩
 ·have nk:∀c v,H c=some v→c≠e→∀ob,h.get? c=some ob→h'.get? c=some ob:=fun c v hv hc ob q=>
   N.keep c ob q (fun z=>by rw [hfs c z] at hv;cases hv) hc fun z=>by rw [nold c z] at hv;cases hv
  refine (x b u hu).stay (fun c v hc q=>?_) (fun _ q=>q) fun _ _ q=>q
  rcases hc with rfl | hc
  ·exact nk c u hu hb v q
  ·exact nk c _ hc (fun z=>by rw [z,trk] at hc;cases hc) v q
theorem noted_flies {fs:List Addr} {N N':Addr→Prop} {P:Program} {w:World} {H:Hp} {h h':Heap} {e:Addr} {old:List Addr} {cls:Value} {dx:Option Addr} (fl:Flies N H h e cls dx) (D:Noted fs e old h h') (hok:HOk P w H h) (live:∀b,N' b→b < h.objs.size):Flies N' H h' e cls dx:=by
 refine ⟨fl.trk,?_⟩
 obtain ⟨vs,sl,_,r,_⟩:=fl.obj
 obtain ⟨vs',T,oT,ts,r1,r2,r3,r4,r5,r6,r7,_⟩:=D.exc _ vs r rfl
 refine ⟨vs',sl,[T],r1,.inr ⟨T,oT,ts,r2,r4,r5,r6,r7,rfl⟩,fun T' hT=>?_⟩
 rw [List.mem_singleton.mp hT]
 exact ⟨fun z=>absurd (live T z) (Nat.not_lt.mpr r3),hok.fresh r3⟩
theorem leave_ok {P:Program} {w:World} {K:PySem.W.Frag} {mg:Str→Option Value} {base:Heap} {N:List Str} {qual:Str} {scope:Scope} {f:Addr} {cd:Value} {A:Around} {outer:List Env} {s:Shared} {H:Hp} {E:XK}:
 Throws (cxOf (CXe P w) P w K mg base N qual scope f cd A outer s H E) E:=by
 intro pins σ H' s' e cls dx J fl q
 obtain ⟨vs,sl,old,he,ent,hold⟩:=fl.obj
 show wpAny (model P w) (A.deeper (envOfC qual scope s.heap.objs.size f cd)) (leaving (envOfC qual scope s.heap.objs.size f cd) (.ref e)) (fun _ s''=>CXe P w outer H s E (.ref e) s'') (fun e' s''=>CXe P w outer H s E e' s'') s'
 refine leave_land (base:=base) (L:=s.heap.objs.size) J.ok.frames J.stack rfl he rfl ent fun h'' D=>?_
 have lim:∀b,LiveIn s.heap b→b < s'.heap.objs.size:=fun b ⟨o,ho⟩=>Nat.lt_of_lt_of_le (Heap.lt_size ho) J.sz
 refine ⟨e,cls,dx,H',rfl,J.os,J.bare,?_,?_,?_,q⟩
 ·refine noted_un (L:=s.heap.objs.size) J.base D (fun b hb=>?_) (fun b hb=>?_) (fun o z=>?_) ⟨_,fl.trk⟩ ⟨_,vs,he,rfl⟩ fun T hT z=>(hold T hT).1 (.inl z)
  ·rcases List.mem_cons.mp (J.stkSub b hb) with z | z
   ·exact .inl z
   ·exact .inr z
  ·show b∈(envOfC qual scope s.heap.objs.size f cd::outer).filterMap (·.frame)
   rw [List.filterMap_cons]
   exact List.mem_cons_of_mem _ hb
  ·exact absurd (Heap.lt_size z) (Nat.lt_irrefl _)
 ·exact noted_hok J.hok D (fun b hb=>J.stkFree b hb) fl.trk fun T hT=>(hold T hT).2
 ·exact noted_flies fl D J.hok lim
section
variable {P:Program} {w:World} {K:PySem.W.Frag} {mg:Str→Option Value} {base:Heap}
theorem Fun.okx {x qual:Str} {st:Stmt} {f:Addr} {fd:FuncData} {N ps:List Str} {k:Nat} {sp:Sp} (F:Fun K x qual st f fd) (S:FnScope N ps (defScope st)) (len:∀vs H Q E,sp vs H Q E→vs.length=ps.length)
 (hbody:∀(cdv:Value) (A:Around) (outer:List Env) (s:Shared) (H:Hp) (vs:List V) (Q:VK) (E:XK),Room k (A.deeper (envOfC qual (defScope st) s.heap.objs.size f cdv))→sp vs H Q E→
  ∃t,PSs (cxOf (CXe P w) P w K mg base N qual (defScope st) f cdv A outer s H E) (defBody st) t∧t {nx:=fun _ H'=>Q .non H',rt:=Q} (start N vs) H):FnOk P w K mg base (CXe P w) (k + 1) f fd ps sp:=by
 obtain ⟨oc,od,kV,doc,pm,an,cdv,ct,osl,rfl,lk,hcd⟩:=F.ex
 exact fn_of lk hcd S len fun A outer s H vs Q E hr hsp=>hbody cdv A outer s H vs Q E hr hsp
end
end L2
namespace L2
open PySem PySem.Spec PyProof.Rows
def strNs (K:PySem.W.Frag) (N:Addr):Bool:=match K.lookup N with
 | some ⟨_,_,.dict es _,_⟩=>es.toList.all fun e=>match e.key with | .str _ _=>true | _=>false
 | _=>false
def excIn (K:PySem.W.Frag) (C:Addr):Bool:=match K.lookup C with
 | some ⟨.type "type",_,.cls cd,sl⟩=>(match cd.mro,sl.toList with
  | [.ref C',.type "Exception",.type "BaseException",.type "object"],[_,_,_,_,some (.builtin "Exception.__new__"),_]=>C'==C&&(!cd.hasDel&&(cd.hasDict&&strNs K cd.ns))
  | _,_=>false)
 | _=>false
theorem ns_str {K:PySem.W.Frag} {N:Addr} (q:strNs K N=true):∃mN:Str→Option Value,(∀h,K.In h→h.Ns N mN)∧∀name,PySem.W.nsIn K N name=some (mN name):=by
 unfold strNs at q
 split at q
 ·rename_i oc od es ep sl ho
  have sk:StrKeys es:=fun e he=>by
   have:=List.all_eq_true.mp q e (Array.mem_toList_iff.mpr he)
   cases hk:e.key with
   | str n t=>exact ⟨n,t,rfl⟩
   | _=>rw [hk] at this;cases this
  refine ⟨nsFind es,fun h X=>⟨_,es,ep,X _ _ ho,rfl,sk,fun _=>rfl⟩,fun name=>?_⟩
  unfold PySem.W.nsIn
  rw [ho]
  dsimp only
  unfold nsFind findBy
  rw [←Array.find?_toList]
  cases hf:es.toList.find? fun e=>e.key.isStr name with
  | some e=>rfl
  | none=>
   dsimp only
   rw [if_neg]
   ·rfl
   ·rw [List.any_eq_true]
    rintro ⟨e,he,hr⟩
    obtain ⟨n,t,hk⟩:=sk e (Array.mem_toList_iff.mp he)
    rw [DictEntry.refKey,hk] at hr
    cases hr
 ·cases q
theorem exc_cls {K:PySem.W.Frag} {C:Addr} (q:excIn K C=true):∃nm qn N bs sn sub ab col dd k0 k1 k2 k3 k5 mN,(∀h,K.In h→h.get? C=some (excClassObj nm qn C N bs EB true sn sub ab col dd k0 k1 k2 k3 k5 "Exception.__new__")∧h.Ns N mN)∧
 ∀name,PySem.W.ownIn K name (.ref C)=some (mN name):=by
 unfold excIn at q
 split at q
 ·rename_i dd cd sl ho
  split at q
  ·rename_i C' k0 k1 k2 k3 k5 hm hs
   simp only [Bool.and_eq_true,beq_iff_eq,Bool.not_eq_true'] at q
   obtain ⟨rfl,hdel,hdi,hns⟩:=q
   obtain ⟨mN,hN,hL⟩:=ns_str hns
   obtain ⟨nm,bs,mro,ns,qn,hd,sn,sub,ab,col,del⟩:=cd
   dsimp only at hm hdel hdi hN hL
   subst hm hdel hdi
   have hsl:sl=#[k0,k1,k2,k3,some (.builtin "Exception.__new__"),k5]:=by
    obtain ⟨l⟩:=sl
    simp only at hs
    rw [hs]
   subst hsl
   refine ⟨nm,qn,ns,bs,sn,sub,ab,col,dd,k0,k1,k2,k3,k5,mN,fun h X=>⟨X _ _ ho,hN h X⟩,fun name=>?_⟩
   unfold PySem.W.ownIn
   dsimp only
   rw [ho]
   exact hL name
  ·cases q
 ·cases q
section
variable {X:Cx} {C fI:Addr} {x:Str} {p pos:Pos} {e:Expr} {es:List Expr} {t:TA} {k:Nat} {fd:FuncData} {ps:List Str} {sp:Sp}
def tExc0 (C:Addr):TE:=fun _ H Q=>∀a,H a=none→Q (.ref a) (upd H a (.ext (ExcNew (.ref C) none a)))
theorem pe_exc0 (hg:Gl X x) (hm:X.mg x=some (.ref C)) (hx:excIn X.K C=true) (hk:PySem.W.keepIn X.K (.ref C)=true) (hi:PySem.W.ownIn X.K "__init__" (.ref C)=some none) (hdb:(x==("__debug__":Str))=false:=by decide):
 PE X (.Call (.Name x p) [] [] pos) (tExc0 C):=by
 intro pins s σ H Q I h
 refine wpAny_Call_Name_kw (ld_glob I hg hm ?_ hdb)
 refine PySem.W.callWith_K0 I.kIn hk ?_
 obtain ⟨nm,qn,N,bs,sn,sub,ab,col,dd,k0,k1,k2,k3,k5,mN,hc,hl⟩:=exc_cls hx
 obtain ⟨hC,hN⟩:=hc s.heap I.kIn
 have hni:mN "__init__"=none:=Option.some.inj ((hl _).symm.trans hi)
 obtain ⟨hp,g,d,tk,os⟩:=s
 refine wpAny_call_exc_sub PySem.F.excBase_Exception hC hN hni fun h' a M=>?_
 obtain ⟨t0,he,_,_⟩:=M.there
 exact ⟨.ref a,upd H a (.ext (ExcNew (.ref C) none a)),I.lay (t':=tk) M.keeps M.new (ExcNew.ok ⟨t0,_,_,he,rfl,rfl⟩),rfl,h a (I.hok.none_of M.new)⟩
def tExcI (C:Addr) (sp:Sp) (t:TA):TE:=fun σ H Q=>t σ H fun vs H1=>∀a,H1 a=none→sp (.ref a::vs) (upd H1 a (.ext (ExcNew (.ref C) none a))) (fun v H2=>v=.non∧Q (.ref a) H2) E0
theorem pe_excI (F:FnOk X.prog X.w X.K X.mg X.base CX0 k fI fd ps sp) (hr:Room (k + 1) X.A) (hb:Binds X.K fd ps []) (hg:Gl X x) (hm:X.mg x=some (.ref C)) (hx:excIn X.K C=true) (hk:PySem.W.keepIn X.K (.ref C)=true)
 (hi:PySem.W.ownIn X.K "__init__" (.ref C)=some (some (.ref fI))) (hf:PySem.W.isFn X.K (.ref fI)=true) (ha:PA X (e::es) t) (hpz:ps.length≤sizeLine:=by decide) (hdb:(x==("__debug__":Str))=false:=by decide)
 (he:starEach (e::es) X.env=(false,eval e X.env)::starEach es X.env:=by rfl) (hpl:(backTo pos (starEach es X.env)).any (·.1)=false:=by rfl):PE X (.Call (.Name x p) (e::es) [] pos) (tExcI C sp t):=by
 intro pins s σ H Q I h
 refine wpAny_Call_Name_kw (ld_glob I hg hm ?_ hdb)
 refine PySem.W.callWith_K (h₀:=X.base) I.ok.mod.kin hk (thn (ha pos pins s σ H _ I h) fun us s1 ⟨vs,H1,I1,r,q⟩=>⟨I1.kIn,?_⟩) he hpl
 obtain ⟨nm,qn,N,bs,sn,sub,ab,col,dd,k0,k1,k2,k3,k5,mN,hc,hl⟩:=exc_cls hx
 obtain ⟨hC,hN⟩:=hc s1.heap I1.kIn
 have hni:mN "__init__"=some (.ref fI):=Option.some.inj ((hl _).symm.trans hi)
 obtain ⟨oI,hoI,hcI⟩:∃o,X.K.lookup fI=some o∧o.cls=.type "function":=by
  have z:PySem.W.typeIn X.K (.ref fI)=some (.type "function"):=beq_iff_eq.mp hf
  exact Option.map_eq_some_iff.mp z
 have hlen:us.length≤sizeLine:=by
  have e1:=F.len _ _ _ _ (q s1.heap.objs.size (I1.hok.fresh (Nat.le_refl _)))
  have e2:=r.length
  rw [List.length_cons] at e1
  omega
 obtain ⟨hp,g,d,tk,os⟩:=s1
 refine wpAny_call_exc_init (hrest:=hlen) PySem.F.excBase_Exception hC hN hni (I1.kIn _ _ hoI) hcI fun h' a M=>?_
 obtain ⟨t0,hea,_,_⟩:=M.there
 have I2:Inv X pins σ (upd H1 a (.ext (ExcNew (.ref C) none a))) ⟨h',g,d,tk,os⟩:=I1.lay (t':=tk) M.keeps M.new (ExcNew.ok ⟨t0,_,_,hea,rfl,rfl⟩)
 have hq:=q a (I1.hok.none_of M.new)
 have r2:Vals (V.ref a::vs) (Value.ref a::us):=.cons rfl r
 have hl2:(Value.ref a::us++[]).length=ps.length:=by
  rw [List.append_nil,←r2.length]
  exact F.len _ _ _ _ hq
 have bd:=hb ⟨h',g,d,tk,os⟩ (Value.ref a::us) I2.kIn hl2
 rw [List.append_nil] at bd
 refine wpAny_call (codeAny_mono (F.run _ X.stack _ _ ⟨Value.ref a::us,[]⟩ (Value.ref a::us) _ _ E0 (hr.make C us []) (I2.env0.make C us []) bd r2 hq) fun r s' hz=>?_)
 cases r with
 | error e=>exact False.elim hz
 | ok fl=>
  cases fl with
  | ret u=>
   obtain ⟨v,H',I3,rv,ev,q3⟩:=I2.after hz
   subst ev
   exact ⟨rv,⟨V.ref a,H',I3,rfl,q3⟩⟩
  | next=>exact False.elim hz
  | brk=>exact False.elim hz
  | cont=>exact False.elim hz
end
section
variable {X:Cx} {e:Expr} {te:TE} {pos:Pos} {E:XK}
def tRaise (K:PySem.W.Frag) (te:TE) (E:XK):TS:=fun _ σ H=>te σ H fun v H1=>∃a C dx,v=.ref a∧H1 a=some (.ext (ExcNew (.ref C) dx a))∧excIn K C=true∧E (.ref C) dx (upd H1 a (.ext (ExcOb (.ref C) dx a)))
theorem ps_raise (he:PE X e te) (T:Throws X E) (hc:X.calm=true:=by rfl):PS X (.Raise (some e) none pos) (tRaise X.K te E):=by
 intro pins s σ H D I h
 rw [arm_exec_Raise]
 refine wpAny_bind (wpAny_standAt (raise_inst (I.ok.hd hc) ?_))
 refine wpAny_bind (thn (he pins s σ H _ I h) fun u s1 ⟨v,H1,I1,rv,a,C,dx,ev,ha,hx,q⟩=>wpAny_bind (wpAny_standAt (wpAny_pure ?_)))
 subst ev
 obtain rfl:u=Value.ref a:=rv
 obtain ⟨nm,qn,N,bs,sn,sub,ab,col,dd,k0,k1,k2,k3,k5,mN,hcl,_⟩:=exc_cls hx
 obtain ⟨⟨t0,vs,sl,hea,h0,h1⟩,_⟩:=I1.hok a _ ha
 refine ⟨a,dx,vs,sl,C,nm,qn,N,bs,true,sn,sub,ab,col,dd,k0,k1,k2,k3,k5,_,rfl,(hcl _ I1.kIn).1,hea,h1,?_⟩
 refine T pins σ (upd H1 a (.ext (ExcOb (.ref C) dx a))) s1 a (.ref C) dx (I1.again ha fun H'=>ExcOb.ok ⟨vs,sl,hea⟩) ⟨upd_same,vs,sl,[],hea,.inl ⟨h1,rfl⟩,fun T hT=>absurd hT (by simp)⟩ q
end
end L2
namespace L2
open PySem PySem.Spec PyProof.Rows
theorem upd_self {H:Hp} {a:Addr} {o:HO} (h:H a=some o):upd H a o=H:=by
 funext b
 by_cases hb:b=a
 ·rw [hb,upd_same,h]
 ·rw [upd_ne hb]
section
variable {X:Cx} {p apos pos pos':Pos} {o e value:Expr} {ta tv te:TE} {f:Str}
def tBaseInit (K:PySem.W.Frag) (t:TA):TE:=fun σ H Q=>t σ H fun vs H1=>∃a v C dx,vs=[.ref a,v]∧H1 a=some (.ext (ExcNew (.ref C) dx a))∧excIn K C=true∧Q .non H1
theorem pe_baseinit {e2:Expr} {t:TA} (hg:Gl X "Exception") (hm:X.mg "Exception"=none) (ha:PA X [e,e2] t)
 (hst:starEach [e,e2] X.env=(false,eval e X.env)::starEach [e2] X.env:=by rfl) (hpl:(backTo pos (starEach [e2] X.env)).any (·.1)=false:=by rfl) {pl:Sem Bool}
 (ht:eval (.Call (.Attribute (.Name "Exception" p) "__init__" apos) [e,e2] [] pos) X.env=(do
  let ov ←eval (.Name "Exception" p) X.env
  standAt apos.atName
  let (f,first) ←holding [ov] (getMethod ov "__init__" pl)
  callWith pos f first (backTo pos (starEach [e,e2] X.env)) (backToKw pos (keywordEach [] X.env))):=by rfl):
 PE X (.Call (.Attribute (.Name "Exception" p) "__init__" apos) [e,e2] [] pos) (tBaseInit X.K t):=by
 intro pins s σ H Q I h
 refine PySem.W.methodCall_KW (pl:=pl) (ld_blt I hg hm PyProof.Rows.Boot.«Exception» ?_) ht
 obtain ⟨m,F⟩:=I.fr
 refine PySem.W.method_type (v:=.builtin "Exception.__init__") F I.ok.mod.kin (by kernel_rfl) (by decide +kernel) (by rfl) (by decide +kernel) ?_
 have I0:=I.tok (s.toks + 1)
 refine PyProof.Rows.callWith_builtin1 (thn (ha pos pins _ σ H _ I0 h) fun us s1 ⟨vs,H1,I1,r,a,v,C,dx,ev,hea,hx,q⟩=>?_) hst hpl
 subst ev
 obtain ⟨u1,u2,rfl,r1,r2⟩:∃u1 u2,us=[u1,u2]∧RelV (.ref a) u1∧RelV v u2:=by
  cases r with
  | cons r1 t=>cases t with
   | cons r2 t=>cases t;exact ⟨_,_,rfl,r1,r2⟩
 obtain rfl:u1=Value.ref a:=r1
 obtain ⟨nm,qn,N,bs,sn,sub,ab,col,dd,k0,k1,k2,k3,k5,mN,hc,hl⟩:=exc_cls hx
 obtain ⟨hC,hN⟩:=hc s1.heap I1.kIn
 obtain ⟨⟨t0,ws,sl,hob,h0,h1⟩,_⟩:=I1.hok a _ hea
 obtain ⟨hp,g,d,tk,os⟩:=s1
 refine exc_init hC hob h0 fun h' t' k he'=>?_
 have z0:0 < ws.size:=(Array.getElem?_eq_some_iff.mp h0).1
 refine ⟨.non,H1,?_,rfl,q⟩
 have J:=I1.write (x:=a) (e:=a) (o:=.ext (ExcNew (.ref C) dx a)) (t':=tk) (by rw [hea];exact True.intro) (.inl rfl) (fun b u hb hu=>k b u hb hu) ⟨_,he'⟩
  (ExcNew.ok ⟨_,_,sl,he',(by rw [Array.getElem?_setIfInBounds_self_of_lt z0]),by rw [Array.getElem?_setIfInBounds_ne (by decide)];exact h1⟩)
 rw [upd_self hea] at J
 exact J
def sExc (K:PySem.W.Frag) (ta tv:TE) (f:Str):TS:=fun D σ H=>tv σ H fun y H1=>ta σ H1 fun x H2=>∃a C,x=.ref a∧H2 a=some (.ext (ExcNew (.ref C) none a))∧excIn K C=true∧PySem.W.ownIn K "__setattr__" (.ref C)=some none∧PySem.W.ownIn K f (.ref C)=some none∧
 typeLookup (.type "Exception") f=pure none∧∀dx,H2 dx=none→dx≠a→D.nx σ (upd (upd H2 dx (.xd [(f,y)])) a (.ext (ExcNew (.ref C) (some dx) a)))
theorem ps_excset (ha:PE X o ta) (hv:PE X value tv) (hs:swapsWith value (some (.Attribute o f pos')) pos.line X.env=pure false):PS X (.Assign [.Attribute o f pos'] value pos) (sExc X.K ta tv f):=by
 intro pins s σ H D I h
 refine plainObj_wpAny_Assign_Attribute (thn (hv pins s σ H _ I h) fun u s1 ⟨y,H1,I1,ry,q⟩=>thn (ha pins s1 σ H1 _ I1 q) fun ov s2 ⟨x,H2,I2,rx,a,C,ex,hea,hx,n1,n2,n3,q2⟩=>?_) hs
 subst ex
 obtain rfl:ov=Value.ref a:=rx
 obtain ⟨nm,qn,N,bs,sn,sub,ab,col,dd,k0,k1,k2,k3,k5,mN,hc,hl⟩:=exc_cls hx
 obtain ⟨hC,hN⟩:=hc s2.heap I2.kIn
 obtain ⟨⟨t0,ws,sl,hob,h0,h1⟩,_⟩:=I2.hok a _ hea
 have e1:mN "__setattr__"=none:=Option.some.inj ((hl _).symm.trans n1)
 have e2:mN f=none:=Option.some.inj ((hl _).symm.trans n2)
 have nd:H2 s2.heap.objs.size=none:=I2.hok.fresh (Nat.le_refl _)
 have nda:s2.heap.objs.size≠a:=Nat.ne_of_gt (Heap.lt_size hob)
 obtain ⟨hp,g,d,tk,os⟩:=s2
 refine exc_set_of PySem.F.store_Exception hC hN e1 e2 n3 hob rfl rfl rfl fun h' tk' k he' hns=>?_
 refine ⟨σ,_,?_,q2 _ nd nda⟩
 have hd:ObjOk X.prog X.w (upd (upd H2 hp.objs.size (.xd [(f,y)])) a (.ext (ExcNew (.ref C) (some hp.objs.size) a))) h' hp.objs.size (.xd [(f,y)]):=by
  refine ⟨_,hns,fun g'=>?_⟩
  by_cases hg:g'=f
  ·subst hg
   have l1:List.lookup g' [(g',y)]=some y:=by simp [List.lookup]
   rw [l1,if_pos rfl]
   exact ry
  ·have l1:List.lookup g' [(f,y)]=none:=by
    have hb:(g'==f)=false:=beq_eq_false_iff_ne.mpr hg
    simp only [List.lookup,hb]
   rw [l1,if_neg hg]
   exact True.intro
 have hex:ObjOk X.prog X.w (upd (upd H2 hp.objs.size (.xd [(f,y)])) a (.ext (ExcNew (.ref C) (some hp.objs.size) a))) h' a (.ext (ExcNew (.ref C) (some hp.objs.size) a)):=ExcNew.ok ⟨t0,ws,sl,he',h0,h1⟩
 refine I2.un (h':=h') (t':=tk') ⟨fun b o hb hn hf _=>k b o (fun z=>by rw [z,hea] at hn;cases hn) hb,fun b o hb hn hf _=>⟨o.slots,k b o (fun z=>by rw [z,hea] at hn;cases hn) hb⟩,fun b o hb hn _=>?_,fun b o hb _=>?_,fun b xs hb=>?_,fun b o u hb=>?_,fun b ps hb=>⟨#[],?_⟩⟩ fun b o hb=>?_
 ·rw [upd_ne (fun z=>by rw [z,hea] at hn;cases hn),upd_ne (Nat.ne_of_lt (Heap.lt_size hb))]
  exact hn
 ·by_cases hba:b=a
  ·rw [hba];exact ⟨_,he'⟩
  ·exact ⟨o,k b o hba hb⟩
 ·rw [upd_ne (fun z=>by rw [z,hea] at hb;cases hb),upd_ne (ne_of_none hb nd)]
  exact hb
 ·rw [upd_ne (fun z=>by rw [z,hea] at hb;cases hb),upd_ne (ne_of_none hb nd)]
  exact hb
 ·rw [upd_ne (fun z=>by rw [z,hea] at hb;cases hb),upd_ne (ne_of_none hb nd),hb]
  simp
 ·by_cases hba:b=a
  ·subst hba
   rw [upd_same] at hb
   cases hb
   exact hex
  ·rw [upd_ne hba] at hb
   by_cases hbd:b=hp.objs.size
   ·subst hbd
    rw [upd_same] at hb
    cases hb
    exact hd
   ·rw [upd_ne hbd] at hb
    have ho:=I2.hok b o hb
    refine ho.stay (fun c v hc' z=>k c v (fun y2=>?_) z) (fun c hc'=>?_) fun c xs hc'=>?_
    ·rcases hc' with r | r
     ·exact hba (r▸y2)
     ·rw [y2,hea] at r;cases r
    ·rw [upd_ne (fun z=>by rw [z,hea] at hc';cases hc'),upd_ne (ne_of_none hc' nd)]
     exact hc'
    ·rw [upd_ne (fun z=>by rw [z,hea] at hc';cases hc'),upd_ne (ne_of_none hc' nd)]
     exact hc'
end
section
variable {X:Cx} {pos:Pos} {e:Expr} {te:TE} {f:Str}
structure ExcGet (K:PySem.W.Frag) (C:Addr) (f:Str):Prop where
 ga:PySem.W.findIn K (.ref C) "__getattribute__"=some (some (.builtin "BaseException.__getattribute__"))
 gh:PySem.W.findIn K (.ref C) "__getattr__"=some none
 mr:PySem.W.mroIn K C (.type "BaseException")=some true
 hd:PySem.W.hasDictIn K C=true
 no:PySem.W.findIn K (.ref C) f=some none
def tExcFld (K:PySem.W.Frag) (te:TE) (f:Str):TE:=fun σ H Q=>te σ H fun x H1=>∃a C dx fs v,x=.ref a∧H1 a=some (.ext (ExcOb (.ref C) (some dx) a))∧H1 dx=some (.xd fs)∧ExcGet K C f∧fs.lookup f=some v∧Q v H1
theorem pe_excfld (he:PE X e te) (hb:attributeBase e f X.env (eval e X.env)=eval e X.env):PE X (.Attribute e f pos) (tExcFld X.K te f):=by
 intro pins s σ H Q I h
 refine attr_of hb (thn (he pins s σ H _ I h) fun u s1 ⟨x,H1,I1,rx,a,C,dx,fs,v,ex,ea,ed,G,l,q⟩=>?_)
 subst ex
 obtain rfl:u=Value.ref a:=rx
 obtain ⟨⟨vs,sl,hob⟩,_⟩:=I1.hok a _ ea
 obtain ⟨mA,hns,hr⟩:=I1.hok dx _ ed
 obtain ⟨w1,hw1,rw1⟩:=RelO.some_of (v:=v) (o:=mA f) (by rw [←l];exact hr f)
 obtain ⟨od,hod,hlk⟩:=lookIn_ns hns
 have IA:PySem.W.InstAt s1.heap a ⟨.ref C,some dx,.fields vs,sl⟩ C (some od):=⟨hob,rfl,rfl,hod⟩
 exact exc_get I1.kIn IA G.ga G.gh G.mr (PySem.W.findObj_own G.hd G.no rfl (by rw [hlk,hw1])) (handed_of rw1) ⟨v,H1,I1.tok _,rw1,q⟩
end
end L2
namespace L2
open PySem PySem.Spec PyProof.Rows
def noSlots (X:Cx):St:=List.replicate X.N.length none
abbrev Cx.suite (X:Cx) (e:Addr):Cx:={X with A:=X.A.mark (some (.ref e)),calm:=false,xe:=fun _ _=>False}
abbrev Cx.tried (X:Cx) (pn:List (Addr×Obj)) (xe:Value→Shared→Prop):Cx:={X with pn:=pn,xe:=xe}
theorem noSlots_get {X:Cx} {i:Nat} {v:V}:(noSlots X)[i]?=some (some v)→False:=by
 unfold noSlots
 rw [List.getElem?_replicate]
 intro h
 split at h<;>cases h
section
variable {X:Cx} {pins:List (Addr×Obj)} {σ:St} {H:Hp} {s:Shared} {h':Heap} {e:Addr} {cls:Value} {dx:Option Addr}
theorem Inv.blank (I:Inv X pins σ H s):Inv X pins (noSlots X) H s:=I.weak (by unfold noSlots;rw [List.length_replicate,I.len]) fun i v h=>(noSlots_get h).elim
theorem Cx.Ok.suite (ok:X.Ok) (e:Addr):(X.suite e).Ok:=
 ⟨ok.mod,ok.kind,ok.glob,ok.blt,ok.above,ok.inj,ok.has,ok.cab,fun z=>(by cases z),ok.frames,ok.stk,ok.exf,ok.bs,ok.bsz,ok.noex,ok.exfs,ok.funs,ok.frf⟩
theorem Inv.suite (I:Inv X pins σ H s) (e:Addr):Inv (X.suite e) pins σ H s:=⟨I.ok.suite e,I.os,I.bare,I.base,I.loc,I.cell,I.free,I.freeC,I.pin,I.hok,I.len⟩
theorem Inv.unsuite (ok:X.Ok) (I:Inv (X.suite e) pins σ H s):Inv X pins σ H s:=⟨ok,I.os,I.bare,I.base,I.loc,I.cell,I.free,I.freeC,I.pin,I.hok,I.len⟩
theorem Cx.Ok.tried {pn:List (Addr×Obj)} {xe:Value→Shared→Prop} (ok:X.Ok):(X.tried pn xe).Ok:=
 ⟨ok.mod,ok.kind,ok.glob,ok.blt,ok.above,ok.inj,ok.has,ok.cab,ok.hd,ok.frames,ok.stk,ok.exf,ok.bs,ok.bsz,ok.noex,ok.exfs,ok.funs,ok.frf⟩
theorem Inv.tried {xe:Value→Shared→Prop} (I:Inv X pins σ H s):Inv (X.tried (X.pn++pins) xe) [] σ H s:=
 ⟨I.ok.tried,I.os,I.bare,I.base,I.loc,I.cell,I.free,I.freeC,fun p hp=>I.pin p (by rwa [List.append_nil] at hp),I.hok,I.len⟩
theorem Inv.untried {xe:Value→Shared→Prop} {pins':List (Addr×Obj)} (ok:X.Ok) (I:Inv (X.tried (X.pn++pins) xe) pins' σ H s):Inv X pins σ H s:=
 ⟨ok,I.os,I.bare,I.base,I.loc,I.cell,I.free,I.freeC,fun p hp=>I.pin p (List.mem_append_left _ hp),I.hok,I.len⟩
theorem Inv.noted {old:List Addr} {vs:Array Value} {sl:Array (Option Value)} (I:Inv X pins σ H s) (hex:X.ex=[]) (trk:H e=some (.ext (ExcOb cls dx e))) (he:s.heap.get? e=some ⟨cls,dx,.fields vs,sl⟩) (ent:Entry s.heap e vs old)
 (hold:∀T∈old,¬Old X pins T∧H T=none) (N:Noted (frs X.stack) e old s.heap h'):Inv X pins σ H {s with heap:=h'}:=by
 have tf:∀T∈old,∃oT ts,s.heap.get? T=some oT∧oT.data=.fields ts:=fun T hT=>by
  rcases ent with ⟨_,rfl⟩ | ⟨T',oT,ts,_,_,q,d,_,rfl⟩
  ·cases hT
  ·rw [List.mem_singleton.mp hT];exact ⟨oT,ts,q,d⟩
 have plain:∀b o,s.heap.get? b=some o→(∀ws,o.data≠.fields ws)→∃sl,h'.get? b=some {o with slots:=sl}:=fun b o hb hd=>by
  by_cases hf:b∈frs X.stack
  ·exact N.slot b o hb hf
  ·refine ⟨o.slots,N.keep b o hb hf (fun z=>?_) fun z=>?_⟩
   ·rw [z,he] at hb;cases hb;exact hd _ rfl
   ·obtain ⟨oT,ts,q,d⟩:=tf b z
    rw [q] at hb;cases hb;exact hd _ d
 have cellK:∀c v,s.heap.IsCell c v→h'.IsCell c v:=fun c v ⟨o,ho,hd⟩=>by
  obtain ⟨sl,q⟩:=plain c o ho fun ws z=>by rw [hd] at z;cases z
  exact ⟨_,q,hd⟩
 refine ⟨I.ok,I.os,I.bare,?_,?_,fun x c hx=>?_,I.free,I.freeC,fun p hp=>?_,?_,I.len⟩
 ·have u:Un X.fs [] X.H_0 H X.s_0.heap s.heap:=by have:=I.base;rwa [hex] at this
  rw [hex]
  refine noted_un (L:=X.env.locals) u N (fun b hb=>?_) (fun b hb=>?_) (fun o z=>?_) ⟨_,trk⟩ ⟨_,vs,he,rfl⟩ fun T hT z=>(hold T hT).1 (.inl z)
  ·rcases List.mem_cons.mp (I.stkSub b hb) with z | z
   ·exact .inl z
   ·exact .inr z
  ·rcases I.ok.stk with z | ⟨z,hf⟩
   ·rw [z];exact hb
   ·rw [z]
    unfold frs
    rw [List.filterMap_cons,hf]
    exact List.mem_cons_of_mem _ hb
  ·exact absurd (Nat.lt_of_lt_of_le (Heap.lt_size z) I.ok.above) (Nat.lt_irrefl _)
 ·obtain ⟨m,⟨o,es,ep,ho,hd,hk,hm⟩,hl⟩:=I.loc
  obtain ⟨sl,q⟩:=plain _ o ho fun ws z=>by rw [hd] at z;cases z
  refine ⟨m,⟨_,es,ep,q,hd,hk,hm⟩,fun i x v h1 h2 h3=>?_⟩
  obtain ⟨u,r,l⟩:=hl i x v h1 h2 h3
  refine ⟨u,r,?_⟩
  rcases l with l | ⟨k,c,hc,z⟩
  ·exact .inl l
  ·exact .inr ⟨k,c,hc,cellK c _ z⟩
 ·obtain ⟨v,z⟩:=I.cell x c hx
  exact ⟨v,cellK c v z⟩
 ·obtain ⟨a1,a2,a3,a4,a5⟩:=I.pin p hp
  refine ⟨N.keep p.1 p.2 a1 (fun z=>?_) (fun z=>?_) (fun z=>(hold _ z).1 (.inr ⟨p,hp,rfl⟩)),a2,a3,a4,a5⟩
  ·rcases List.mem_cons.mp (I.stkSub _ z) with y | y
   ·exact a3 y
   ·exact a4 y
  ·rw [z,trk] at a2;cases a2
 ·exact noted_hok I.hok N (fun b hb=>I.stkFree b hb) trk fun T hT=>(hold T hT).2
theorem Inv.forget {t':Nat} {m':Str→Option Value} (I:Inv X pins σ H s) (hn:h'.Ns X.env.locals m') (hs:Heap.SameBut X.env.locals s.heap h'):Inv X pins (noSlots X) H {s with heap:=h',toks:=t'}:=by
 have I0:=I.blank
 have ot:∀b o,b≠X.env.locals→s.heap.get? b=some o→h'.get? b=some o:=fun b o hb q=>(hs.2 b hb).trans q
 refine ⟨I.ok,I.os,I.bare,⟨fun b o q n hb hx=>?_,fun b o q n hb hx=>?_,I.base.free,fun b o q hx=>?_,I.base.tups,I.base.frzs,I.base.tbls⟩,⟨m',hn,fun i x v h1 h2 h3=>(noSlots_get h2).elim⟩,fun x c hx=>?_,I.free,I.freeC,fun p hp=>?_,fun b o hb=>?_,I0.len⟩
 ·exact ot b o (Nat.ne_of_lt (Nat.lt_of_lt_of_le (Heap.lt_size q) I.ok.above)) (I.base.keep b o q n hb hx)
 ·obtain ⟨sl,r⟩:=I.base.slot b o q n hb hx
  exact ⟨sl,ot b _ (Nat.ne_of_lt (Nat.lt_of_lt_of_le (Heap.lt_size q) I.ok.above)) r⟩
 ·obtain ⟨o',r⟩:=I.base.there b o q hx
  exact ⟨o',ot b _ (Nat.ne_of_lt (Nat.lt_of_lt_of_le (Heap.lt_size q) I.ok.above)) r⟩
 ·obtain ⟨v,o,ho,hd⟩:=I.cell x c hx
  exact ⟨v,o,ot c o (I.cne x c hx) ho,hd⟩
 ·obtain ⟨a1,a2,a3,a4,a5⟩:=I.pin p hp
  exact ⟨ot p.1 p.2 a3 a1,a2,a3,a4,a5⟩
 ·refine (I.hok b o hb).stay (fun c v hc q=>ot c v (fun z=>?_) q) (fun _ q=>q) fun _ _ q=>q
  rcases hc with r | r
  ·rw [r] at z;rw [z,I.free] at hb;cases hb
  ·rw [z,I.free] at r;cases r
end
theorem flight_none {M:Model} {A:Around} {E:Value→Shared→Prop} {s:Shared} {e:Addr} {oe:Obj} {vs:Array Value} {old:List Addr} {Q:Unit→Shared→Prop} (he:s.heap.get? e=some oe) (hd:oe.data=.fields vs) (ent:Entry s.heap e vs old) (h:Q () s):
 wpAny M A (setFlight (.ref e) none) Q E s:=by
 rcases ent with ⟨h1,_⟩ | ⟨T,oT,ts,h1,_,hT,hdT,h3,_⟩
 ·unfold setFlight
  refine wpAny_bind (wpAny_field he hd h1 ?_)
  rw [if_neg (by decide)]
  exact wpAny_pure h
 ·refine wpAny_setFlight_none he hd h1 hT hdT (Array.getElem?_eq_some_iff.mp h3).1 ?_
  rw [Heap.update_setField_same s.heap T oT ts 3 .none hT hdT h3]
  exact h
abbrev TH:=Ends→Addr→Value→Option Addr→Hp→Prop
def PH (X:Cx) (hs:List ExceptHandler) (t:TH):Prop:=∀(pins:List (Addr×Obj)) (s:Shared) (H:Hp) (D:Ends) (e:Addr) (cls:Value) (dx:Option Addr),Inv X pins (noSlots X) H s→Flies (Old X pins) H s.heap e cls dx→t D e cls dx H→
 wpAny (model X.prog X.w) X.A (handleBy (.ref e) X.env hs) (SP X pins D) X.xe s
def hNever:TH:=fun _ _ _ _ _=>False
theorem ph_never {X:Cx} {hs:List ExceptHandler}:PH X hs hNever:=fun _ _ _ _ _ _ _ _ _ h=>h.elim
section
variable {X:Cx} {x n:Str} {C:Addr} {np pos:Pos} {b0:Stmt} {suite:List Stmt} {rest:List ExceptHandler} {ts:TS} {tr:TH}
theorem SP.unsuite {pins:List (Addr×Obj)} {e:Addr} {D:Ends} {f:Flow} {s':Shared} (ok:X.Ok) (h:SP (X.suite e) pins D f s'):SP X pins D f s':=by
 cases f with
 | next=>obtain ⟨σ',H',I,q⟩:=h;exact ⟨σ',H',I.unsuite ok,q⟩
 | brk=>obtain ⟨σ',H',I,q⟩:=h;exact ⟨σ',H',I.unsuite ok,q⟩
 | cont=>obtain ⟨σ',H',I,q⟩:=h;exact ⟨σ',H',I.unsuite ok,q⟩
 | ret u=>obtain ⟨v,σ',H',I,r,q⟩:=h;exact ⟨v,σ',H',I.unsuite ok,r,q⟩
def hCons (K:PySem.W.Frag) (C:Addr) (nos:St) (ts:TS) (tr:TH):TH:=fun D e cls dx H=>∃b,PySem.W.exmOne K cls (.ref C)=some b∧if b=true then ts D nos H else tr D e cls dx H
theorem ph_cons (hg:Gl X x) (hm:X.mg x=some (.ref C)) (hsu:∀e,PSs (X.suite e) (b0::suite) ts) (hrest:PH X rest tr) (hdb:(x==("__debug__":Str))=false:=by decide):
 PH X (.ExceptHandler (some (.Name x np)) none (b0::suite) pos::rest) (hCons X.K C (noSlots X) ts tr):=by
 intro pins s H D e cls dx I fl ⟨b,hb,h⟩
 obtain ⟨vs,sl,old,he,ent,hold⟩:=fl.obj
 have Is:Inv (X.suite e) pins (noSlots X) H s:=I.suite e
 have LT:PySem.W.Looks (model X.prog X.w) s.heap (typeOf (.ref e)) cls:=(PySem.W.Looks.ld he).andThen .now
 refine wpAny_handleBy_cons (codeAny_handlers_test (ld_glob (X:=X.suite e) Is hg hm ((PySem.W.exm_one I.kIn LT hb).here ?_) hdb)) (by intro q;cases q)
 cases b with
 | true=>
  refine codeAny_handlers_suite (flight_none he rfl ent ?_)
  refine wpAny_mono (hsu e pins s (noSlots X) H D Is h) (fun f s2 q=>?_) fun _ _ z=>z.elim
  exact q.unsuite I.ok
 | false=>exact hrest pins s H D e cls dx I fl h
def hConsAs (K:PySem.W.Frag) (C:Addr) (nos:St) (i:Nat) (ts:TS) (tr:TH):TH:=fun D e cls dx H=>∃b,PySem.W.exmOne K cls (.ref C)=some b∧
 if b=true then ts {nx:=fun _ H=>D.nx nos H,rt:=D.rt,bk:=fun _ H=>D.bk nos H,ct:=fun _ H=>D.ct nos H} (nos.set i (some (.ref e))) H else tr D e cls dx H
theorem ph_consAs {i:Nat} (hg:Gl X x) (hm:X.mg x=some (.ref C)) (hnd:X.N.Nodup) (hi:X.N[i]?=some n) (hl:X.env.scope.names.lookup n=some .local) (hsu:∀e,PSs (X.suite e) (b0::suite) ts) (hrest:PH X rest tr) (hdb:(x==("__debug__":Str))=false:=by decide):
 PH X (.ExceptHandler (some (.Name x np)) (some n) (b0::suite) pos::rest) (hConsAs X.K C (noSlots X) i ts tr):=by
 intro pins s H D e cls dx I fl ⟨b,hb,h⟩
 obtain ⟨vs,sl,old,he,ent,hold⟩:=fl.obj
 have Is:Inv (X.suite e) pins (noSlots X) H s:=I.suite e
 have LT:PySem.W.Looks (model X.prog X.w) s.heap (typeOf (.ref e)) cls:=(PySem.W.Looks.ld he).andThen .now
 refine wpAny_handleBy_cons (codeAny_handlers_test (ld_glob (X:=X.suite e) Is hg hm ((PySem.W.exm_one I.kIn LT hb).here ?_) hdb)) (by intro q;cases q)
 cases b with
 | false=>exact hrest pins s H D e cls dx I fl h
 | true=>
  refine codeAny_handlers_suite_as (flight_none he rfl ent ?_)
  refine store_ok (X:=X.suite e) Is hnd hi (.inl hl) (v:=.ref e) rfl (fun s1 I1=>?_) (.inr hl)
  refine wpAny_mono (hsu e pins s1 _ H _ I1 h) (fun f s2 q=>?_) fun _ _ z=>z.elim
  have fin:∀{σ':St} {H':Hp} {Q:Flow→Shared→Prop},Inv (X.suite e) pins σ' H' s2→(∀s3,Inv X pins (noSlots X) H' s3→Q f s3)→
   wpAny (model X.prog X.w) X.A (do bindName X.env n .none;unbindBehindTheSuite X.env n pos) (fun _ s3=>Q f s3) X.xe s2:=fun {σ' H' Q} J k=>by
   have J2:=J.unsuite I.ok
   obtain ⟨m,hn,_⟩:=J2.loc
   refine wpAny_nameGoes hl hn (by rw [I.ok.kind];rfl) fun h' m' hn' hs'=>?_
   exact k _ (J2.forget hn' hs')
  cases f with
  | next=>obtain ⟨σ',H',J,q⟩:=q;exact fin (Q:=SP X pins D) J fun s3 J3=>⟨_,H',J3,q⟩
  | brk=>obtain ⟨σ',H',J,q⟩:=q;exact fin (Q:=SP X pins D) J fun s3 J3=>⟨_,H',J3,q⟩
  | cont=>obtain ⟨σ',H',J,q⟩:=q;exact fin (Q:=SP X pins D) J fun s3 J3=>⟨_,H',J3,q⟩
  | ret u=>obtain ⟨v,σ',H',J,r,q⟩:=q;exact fin (Q:=SP X pins D) J fun s3 J3=>⟨v,_,H',J3,r,q⟩
end
def tTry (tb:XK→TS) (th:TH):TS:=fun D σ H=>tb (fun cls dx H'=>∀e,H' e=some (.ext (ExcOb cls dx e))→th D e cls dx H') D σ H
theorem ps_try {X:Cx} {body:List Stmt} {h0:ExceptHandler} {hs:List ExceptHandler} {pos:Pos} {tb:XK→TS} {th:TH} (hb:∀(pn:List (Addr×Obj)) (xe:Value→Shared→Prop) (E:XK),Throws (X.tried pn xe) E→PSs (X.tried pn xe) body (tb E))
 (hh:PH X (h0::hs) th) (hstk:X.stack=X.env::X.outer:=by rfl) (hfr:X.env.frame=some X.env.locals:=by rfl) (hex:X.ex=[]:=by rfl):PS X (.Try body (h0::hs) [] [] pos) (tTry tb th):=by
 intro pins s σ H D I h
 refine wpAny_Try_except ?_
 have T:Throws (X.tried (X.pn++pins) (fun e s1=>wpAny (model X.prog X.w) X.A (noteFrame e X.env) (fun _ s2=>wpAny (model X.prog X.w) X.A (setFlight e none) (fun _ s3=>wpAny (model X.prog X.w) X.A (handleBy e X.env (h0::hs)) (SP X pins D) X.xe s3) X.xe s2) X.xe s1))
  (fun cls dx H'=>∀e,H' e=some (.ext (ExcOb cls dx e))→th D e cls dx H'):=by
  intro pins' σ' H' s' e cls dx J fl q
  have J2:Inv X pins σ' H' s':=J.untried I.ok
  obtain ⟨vs,sl,old,he,ent,hold⟩:=fl.obj
  have hold2:∀T∈old,¬Old X pins T∧H' T=none:=fun T hT=>⟨fun z=>(hold T hT).1 (by
   rcases z with z | ⟨p,hp,hz⟩
   ·exact .inl z
   ·exact .inr ⟨p,List.mem_append_left _ hp,hz⟩),(hold T hT).2⟩
  have fr2:X.A.frames=some (X.env::X.outer):=by rw [←hstk];exact J2.ok.frames
  have fl2:s'.heap.FunFrames X.base (X.env::X.outer):=by rw [←hstk];exact J2.stack
  refine note_land (base:=X.base) (outer:=X.outer) (L:=X.env.locals) fr2 fl2 hfr he rfl ent fun h'' N=>?_
  have N2:Noted (frs X.stack) e old s'.heap h'':=by rw [hstk];exact N
  have J3:Inv X pins (noSlots X) H' {s' with heap:=h''}:=J2.blank.noted hex fl.trk he ent hold2 N2
  refine hh pins _ H' D e cls dx J3 (noted_flies fl N2 J2.hok fun b hb=>?_) (q e fl.trk)
  rcases hb with ⟨o,ho⟩ | ⟨p,hp,rfl⟩
  ·exact Nat.lt_of_lt_of_le (Heap.lt_size ho) J2.sz
  ·exact Heap.lt_size (J2.pin p hp).1
 refine wpAny_mono (hb _ _ _ T [] s σ H D I.tried h) (fun f s1 q=>?_) fun e s1 q=>q
 cases f with
 | next=>obtain ⟨σ',H',J,q⟩:=q;exact wpAny_execs_nil ⟨σ',H',J.untried I.ok,q⟩
 | brk=>obtain ⟨σ',H',J,q⟩:=q;exact ⟨σ',H',J.untried I.ok,q⟩
 | cont=>obtain ⟨σ',H',J,q⟩:=q;exact ⟨σ',H',J.untried I.ok,q⟩
 | ret u=>obtain ⟨v,σ',H',J,r,q⟩:=q;exact ⟨v,σ',H',J.untried I.ok,r,q⟩
end L2
namespace L2
open PySem PySem.Spec PyProof.Rows
def GI (mg:Str→Option Value) (x:Str) (i:Int):Prop:=∃t,mg x=some (.int i t)
def GT (K:PySem.W.Frag) (mg:Str→Option Value) (x:Str) (xs:List V):Prop:=∃a,mg x=some (.ref a)∧∀H,SqT K H a xs
def Cal (P:Program) (w:World) (K:PySem.W.Frag) (mg:Str→Option Value) (base:Heap) (CX:CXT) (x:Str) (ps:List Str) (k:Nat) (sp:Sp):Prop:=
 ∃f fd,FnOk P w K mg base CX k f fd ps sp∧mg x=some (.ref f)∧PySem.W.keepIn K (.ref f)=true∧Binds K fd ps []
def CalM (P:Program) (w:World) (K:PySem.W.Frag) (mg:Str→Option Value) (base:Heap) (CX:CXT) (C:Addr) (m:Str) (ps:List Str) (k:Nat) (sp:Sp):Prop:=
 ∃f fd,FnOk P w K mg base CX k f fd ps sp∧Cls K C∧Meth K C m f∧Binds K fd ps []
def CalC (P:Program) (w:World) (K:PySem.W.Frag) (mg:Str→Option Value) (base:Heap) (C:Addr) (x:Str) (ps:List Str) (k:Nat) (sp:Sp):Prop:=
 ∃f fd,FnOk P w K mg base CX0 k f fd ps sp∧Mk K C f∧mg x=some (.ref C)∧Binds K fd ps []
section
variable {X:Cx} {CX:CXT} {k:Nat} {C:Addr} {ps:List Str} {sp:Sp} {E:XK} {x m:Str} {p pos apos:Pos} {e o:Expr} {es:List Expr} {ta:TE} {t:TA} {i:Int} {z:Str} {xs:List V}
theorem pe_gi (h:GI X.mg x i) (hg:Gl X x:=by rfl) (hd:(x==("__debug__":Str))=false:=by decide):PE X (.Name x pos) (tC (.int i)):=let ⟨t,e⟩:=h;pe_glob hg e ⟨t,rfl⟩ hd
def tGT (K:PySem.W.Frag) (xs:List V):TE:=fun _ H Q=>∀a,(∀H',SqT K H' a xs)→Q (.ref a) H
theorem pe_gt (h:GT X.K X.mg x xs) (hg:Gl X x:=by rfl) (hd:(x==("__debug__":Str))=false:=by decide):PE X (.Name x pos) (tGT X.K xs):=by
 obtain ⟨a,e,q⟩:=h
 intro pins s σ H Q I h
 exact pe_glob (v:=.ref a) hg e rfl hd pins s σ H Q I (h a q)
theorem pe_cal (c:Cal X.prog X.w X.K X.mg X.base CX x ps k sp) (hr:Room k X.A) (hx:Passes CX X E) (ha:PA X (e::es) t) (hg:Gl X x:=by rfl) (hdb:(x==("__debug__":Str))=false:=by decide)
 (he:starEach (e::es) X.env=(false,eval e X.env)::starEach es X.env:=by rfl) (hpl:(backTo pos (starEach es X.env)).any (·.1)=false:=by rfl):PE X (.Call (.Name x p) (e::es) [] pos) (tCall sp [] E t):=by
 obtain ⟨f,fd,F,hm,hk,hb⟩:=c
 exact pe_call F hr hg hm hk hb .nil hx ha hdb he hpl
theorem pe_calm {pl:Sem Bool} (he:PE X o ta) (c:CalM X.prog X.w X.K X.mg X.base CX C m ps k sp) (hr:Room k X.A) (hx:Passes CX X E) (ha:PA X (e::es) t)
 (hst:starEach (e::es) X.env=(false,eval e X.env)::starEach es X.env:=by rfl) (hpl:(backTo pos (starEach es X.env)).any (·.1)=false:=by rfl)
 (ht:eval (.Call (.Attribute o m apos) (e::es) [] pos) X.env=(do
  let ov ←eval o X.env
  standAt apos.atName
  let (f,first) ←holding [ov] (getMethod ov m pl)
  callWith pos f first (backTo pos (starEach (e::es) X.env)) (backToKw pos (keywordEach [] X.env))):=by rfl):
 PE X (.Call (.Attribute o m apos) (e::es) [] pos) (tMeth C m sp [] E ta t):=by
 obtain ⟨f,fd,F,hc,hm,hb⟩:=c
 exact pe_meth he hc hm F hr hb .nil hx ha hst hpl ht
theorem pe_calm0 {pl:Sem Bool} (he:PE X o ta) (c:CalM X.prog X.w X.K X.mg X.base CX C m ps k sp) (hr:Room k X.A) (hx:Passes CX X E)
 (ht:eval (.Call (.Attribute o m apos) [] [] pos) X.env=(do
  let ov ←eval o X.env
  standAt apos.atName
  let (f,first) ←holding [ov] (getMethod ov m pl)
  callWith pos f first (backTo pos (starEach [] X.env)) (backToKw pos (keywordEach [] X.env))):=by rfl):
 PE X (.Call (.Attribute o m apos) [] [] pos) (tMeth C m sp [] E ta tNil):=by
 obtain ⟨f,fd,F,hc,hm,hb⟩:=c
 exact pe_meth0 he hc hm F hr hb .nil hx ht
theorem pe_calc (c:CalC X.prog X.w X.K X.mg X.base C x ps k sp) (hr:Room (k + 1) X.A) (ha:PA X (e::es) t) (hg:Gl X x:=by rfl) (hdb:(x==("__debug__":Str))=false:=by decide)
 (he:starEach (e::es) X.env=(false,eval e X.env)::starEach es X.env:=by rfl) (hpl:(backTo pos (starEach es X.env)).any (·.1)=false:=by rfl):PE X (.Call (.Name x p) (e::es) [] pos) (tMake C sp [] E0 t):=by
 obtain ⟨f,fd,F,M,hm,hb⟩:=c
 exact pe_make M F hr hg hm hb .nil pass0 ha hdb he hpl
theorem pe_calc0 (c:CalC X.prog X.w X.K X.mg X.base C x ps k sp) (hr:Room (k + 1) X.A) (hg:Gl X x:=by rfl) (hdb:(x==("__debug__":Str))=false:=by decide):PE X (.Call (.Name x p) [] [] pos) (tMake C sp [] E0 tNil):=by
 obtain ⟨f,fd,F,M,hm,hb⟩:=c
 exact pe_make0 M F hr hg hm hb .nil pass0 hdb
end
def tM (t:TE):TE:=fun σ H Q=>∃K1:VK,t σ H K1∧∀v H1,K1 v H1→Q v H1
theorem PE.mono {X:Cx} {e:Expr} {t:TE} (h:PE X e t):PE X e (tM t):=fun pins s σ H Q I ⟨K1,h1,h2⟩=>thn (h pins s σ H K1 I h1) fun _ _ ⟨v,H',I',r,q⟩=>⟨v,H',I',r,h2 v H' q⟩
def tMS (t:TS):TS:=fun D σ H=>∃nx1:St→Hp→Prop,t {D with nx:=nx1} σ H∧∀σ' H',nx1 σ' H'→D.nx σ' H'
theorem PS.mono {X:Cx} {st:Stmt} {t:TS} (h:PS X st t):PS X st (tMS t):=fun pins s σ H D I ⟨nx1,h1,h2⟩=>thn (h pins s σ H _ I h1) fun f s1 q=>by
 cases f with
 | next=>obtain ⟨σ',H',J,q⟩:=q;exact ⟨σ',H',J,h2 _ _ q⟩
 | brk=>exact q
 | cont=>exact q
 | ret u=>exact q
def spExcInit (C:Addr) (f:Str):Sp:=fun vs H Q _=>∃a v,vs=[.ref a,v]∧H a=some (.ext (ExcNew (.ref C) none a))∧∀dx,H dx=none→dx≠a→Q .non (upd (upd H dx (.xd [(f,v)])) a (.ext (ExcNew (.ref C) (some dx) a)))
def CalX (P:Program) (w:World) (K:PySem.W.Frag) (mg:Str→Option Value) (base:Heap) (C:Addr) (x:Str) (k:Nat) (f:Str):Prop:=
 ∃fI fd ps,FnOk P w K mg base CX0 k fI fd ps (spExcInit C f)∧ps.length≤1000∧Binds K fd ps []∧mg x=some (.ref C)∧excIn K C=true∧PySem.W.keepIn K (.ref C)=true∧PySem.W.ownIn K "__init__" (.ref C)=some (some (.ref fI))∧PySem.W.isFn K (.ref fI)=true
def CalX0 (K:PySem.W.Frag) (mg:Str→Option Value) (C:Addr) (x:Str):Prop:=mg x=some (.ref C)∧excIn K C=true∧PySem.W.keepIn K (.ref C)=true∧PySem.W.ownIn K "__init__" (.ref C)=some none
section
variable {X:Cx} {C:Addr} {x f:Str} {p pos cpos:Pos} {e:Expr} {te:TE} {E:XK} {k:Nat}
def tRaise1 (C:Addr) (f:Str) (te:TE) (E:XK):TS:=fun _ σ H=>te σ H fun v H1=>∀a dx H2,H2 a=some (.ext (ExcOb (.ref C) (some dx) a))→H2 dx=some (.xd [(f,v)])→Same H1 H2→E (.ref C) (some dx) H2
theorem ps_raise1 (c:CalX X.prog X.w X.K X.mg X.base C x k f) (hr:Room (k + 1) X.A) (he:PE X e te) (T:Throws X E) (hg:Gl X x:=by rfl) (hc:X.calm=true:=by rfl) (hdb:(x==("__debug__":Str))=false:=by decide)
 (hst:starEach [e] X.env=(false,eval e X.env)::starEach [] X.env:=by rfl) (hpl:(backTo cpos (starEach [] X.env)).any (·.1)=false:=by rfl):
 PS X (.Raise (some (.Call (.Name x p) [e] [] cpos)) none pos) (tRaise1 C f te E):=by
 obtain ⟨fI,fd,ps,F,hz,hb,hm,hx,hk,hi,hf⟩:=c
 have pe:=pe_excI (p:=p) (pos:=cpos) F hr hb hg hm hx hk hi hf (pa_cons he.mono pa_nil hst) (Nat.le_of_lt (Nat.lt_of_le_of_lt hz (by decide))) hdb hst hpl
 intro pins s σ H D I h
 refine ps_raise pe T hc pins s σ H D I ⟨_,h,fun v H1 q a ha=>?_⟩
 refine ⟨a,v,rfl,upd_same,fun dx hdx hne=>⟨rfl,a,C,some dx,rfl,upd_same,hx,q a dx _ upd_same ?_ fun b o hb=>?_⟩⟩
 ·rw [upd_ne hne,upd_ne hne,upd_same]
 ·have hba:b≠a:=ne_of_none hb ha
  rw [upd_ne hne] at hdx
  rw [upd_ne hba,upd_ne hba,upd_ne (ne_of_none hb hdx),upd_ne hba]
  exact hb
def tRaise0 (C:Addr) (E:XK):TS:=fun _ _ H=>∀a H2,H2 a=some (.ext (ExcOb (.ref C) none a))→Same H H2→E (.ref C) none H2
theorem ps_raise0 (c:CalX0 X.K X.mg C x) (T:Throws X E) (hg:Gl X x:=by rfl) (hc:X.calm=true:=by rfl) (hdb:(x==("__debug__":Str))=false:=by decide):PS X (.Raise (some (.Call (.Name x p) [] [] cpos)) none pos) (tRaise0 C E):=by
 obtain ⟨hm,hx,hk,hi⟩:=c
 have pe:=pe_exc0 (p:=p) (pos:=cpos) hg hm hx hk hi hdb
 intro pins s σ H D I h
 refine ps_raise pe T hc pins s σ H D I fun a ha=>⟨a,C,none,rfl,upd_same,hx,h a _ upd_same fun b o hb=>?_⟩
 have hba:b≠a:=ne_of_none hb ha
 rw [upd_ne hba,upd_ne hba]
 exact hb
end
def GD (P:Program) (w:World) (K:PySem.W.Frag) (mg:Str→Option Value) (x:Str) (kvs:List (Key×V)):Prop:=
 ∃(a:Addr) (vs:List (Key×Value)),mg x=some (.ref a)∧(a==sysModules)=false∧KV kvs vs∧∀h:Heap,K.In h→h.DictOf (mixKind P w) a vs
section
variable {X:Cx} {x:Str} {kvs:List (Key×V)} {p apos cpos pos:Pos} {e f:Expr} {ty tx:TE}
def tGGet2 (kvs:List (Key×V)) (ty tx:TE):TE:=fun σ H Q=>ty σ H fun y H1=>tx σ H1 fun z H2=>∃k,y=kV k∧Q ((valV kvs k).getD z) H2
theorem pe_gdget2 (G:GD X.prog X.w X.K X.mg x kvs) (he:PE X e ty) (hf:PE X f tx) (m:M2 X (.Name x p) "get" apos e f cpos) (hg:Gl X x:=by rfl) (hd:(x==("__debug__":Str))=false:=by decide):
 PE X (.Call (.Attribute (.Name x p) "get" apos) [e,f] [] cpos) (tGGet2 kvs ty tx):=by
 obtain ⟨a,vs,hm,ha,rel,dd⟩:=G
 intro pins s σ H Q I h
 refine wpAny_Call_method m.base m.few m.line PySem.F.plainAttrs_dict PySem.F.slot_dict_get PySem.F.type_dict_get (ld_glob I hg hm ?_ hd)
 refine ⟨(dd _ I.kIn).typeIs,fun b q=>?_,?_⟩
 ·cases q
  obtain ⟨ob,_,_,h1,h2,_⟩:=dd _ I.kIn
  exact ⟨ob,h1,h2.2.1⟩
 rw [m.trees]
 refine Calls.callWith_builtin rfl (Calls.evalArgs_plain (Calls.spliced_cons (thn (he pins s σ H _ I h) fun iv s2 ⟨y,H2,I2,ry,q2⟩=>
  Calls.spliced_cons (thn (hf pins s2 σ H2 _ I2 q2) fun fv s3 ⟨z,H3,I3,rz,k,ey,q3⟩=>Calls.spliced_nil ?_))))
 subst ey
 have d3:=dd _ I3.kIn
 refine call_meetsIn PySem.F.slot_dict_get d3.typeIs PySem.F.entry_dict_get (PySem.F.args_dict_get_3 _ _ _) (meets_dict_get_default (mixKind X.prog X.w) a (kV_is ry) ha fv) ⟨_,d3.mapOf,?_⟩
 exact ⟨_,H3,I3.tok _,(rel.val k).getD rz,q3⟩
def tGGet (kvs:List (Key×V)) (ty:TE):TE:=fun σ H Q=>ty σ H fun y H1=>∃k v,y=kV k∧valV kvs k=some v∧Q v H1
theorem pe_gdget (G:GD X.prog X.w X.K X.mg x kvs) (hi:PE X e ty) (hs:NoSl e:=by exact fun _ _=>rfl) (hg:Gl X x:=by rfl) (hd:(x==("__debug__":Str))=false:=by decide):PE X (.Subscript (.Name x p) e pos) (tGGet kvs ty):=by
 obtain ⟨a,vs,hm,ha,rel,dd⟩:=G
 intro pins s σ H Q I h
 refine subD_of PySem.F.slot_dict_getitem.lookup hs (ld_glob I hg hm (thn (hi pins s σ H _ I h) fun iv s2 ⟨y,H2,I2,ry,k,v,ey,hv,q2⟩=>?_) hd)
 subst ey
 have d2:=dd _ I2.kIn
 obtain ⟨w',hw,rw'⟩:=RelO.some_of (v:=v) (o:=valueAt vs k) (by rw [←hv];exact rel.val k)
 exact ⟨d2.typeIs,wpAny_getItem_of (kV_is ry) d2.mapOf hw ⟨v,H2,I2.tok _,rw',q2⟩⟩
end
end L2
namespace L2
open PySem PySem.Spec PyProof.Rows
section
variable {P:Program} {w:World} {K:PySem.W.Frag} {h:Heap} {mg:Str→Option Value} {x:Str}
theorem gi_mk (X:K.In h) (G:h.Ns mainGlobals mg) {i:Int} {t:Tok} (e:PySem.W.nsIn K mainGlobals x=some (some (.int i t))):GI mg x i:=⟨t,PySem.W.mg_of X G e⟩
theorem gn_mk (X:K.In h) (G:h.Ns mainGlobals mg) (e:PySem.W.nsIn K mainGlobals x=some none):mg x=none:=by
 obtain ⟨o,es,ep,ho,hd,hk,hm⟩:=G
 unfold PySem.W.nsIn at e
 split at e
 ·rename_i c d es' n sl q
  have:=X _ _ q
  rw [ho] at this
  cases this
  cases hd
  rw [←hm]
  unfold nsFind findBy
  rw [←Array.find?_toList]
  split at e
  ·cases e
  ·rename_i hf
   show Option.map _ (es.toList.find? fun e=>e.key.isStr x)=none
   rw [hf]
   rfl
 ·cases e
theorem gt_mk (X:K.In h) (G:h.Ns mainGlobals mg) {a:Addr} {xs:List V} {oc:Value} {od:Option Addr} {its:Array Value} {n:Nat} {sl:Array (Option Value)} (e:PySem.W.nsIn K mainGlobals x=some (some (.ref a)))
 (l:K.lookup a=some ⟨.type "tuple",od,.seq its n,sl⟩) (hz:its.size≤1000) (hv:Vals xs its.toList):GT K mg x xs:=
 ⟨a,PySem.W.mg_of X G e,fun H=>.inr ⟨_,its,n,l,rfl,rfl,Nat.le_trans hz (by decide),hv⟩⟩
def EntI (e:DictEntry) (kv:Int×V):Prop:=(∃t,e.key=.int kv.1 t)∧e.hash=hashInt kv.1∧RelV kv.2 e.val
theorem gd_mk (X:K.In h) (G:h.Ns mainGlobals mg) {a:Addr} {ks:List (Int×V)} {es:Array DictEntry} {ep:Nat} (e:PySem.W.nsIn K mainGlobals x=some (some (.ref a))) (l:K.lookup a=some ⟨.type "dict",none,.dict es ep,#[]⟩)
 (ha:(a==sysModules)=false) (hv:Paired EntI es.toList ks) (nd:(ks.map (·.1)).Nodup):GD P w K mg x (ks.map fun kv=>(Sum.inl kv.1,kv.2)):=by
 have key:∀{l:List DictEntry} {ks:List (Int×V)},Paired EntI l ks→∃vs:List (Key×Value),KV (ks.map fun kv=>((Sum.inl kv.1:Key),kv.2)) vs∧Pairs (mixKind P w) l vs∧vs.map (·.1)=ks.map (fun kv=>Sum.inl kv.1)∧∀e∈l,∃k,(mixKind P w).is k e.key=true∧e.hash=(mixKind P w).hash k:=by
  intro l ks hp
  induction hp with
  | nil=>exact ⟨[],.nil,.nil,rfl,by simp⟩
  | @cons en kv l ks r t ih=>
   obtain ⟨vs,h1,h2,h3,h4⟩:=ih
   obtain ⟨⟨tk,hk⟩,hh,hr⟩:=r
   have is1:(mixKind P w).is (Sum.inl kv.1) en.key=true:=by
    rw [hk]
    show Value.isInt kv.1 (.int kv.1 tk)=true
    simp [Value.isInt]
   refine ⟨(Sum.inl kv.1,en.val)::vs,.cons ⟨rfl,hr⟩ h1,.cons is1 rfl h2,by rw [List.map_cons,List.map_cons,h3],fun e he=>?_⟩
   rcases List.mem_cons.mp he with rfl | he
   ·exact ⟨_,is1,hh⟩
   ·exact h4 e he
 obtain ⟨vs,h1,h2,h3,h4⟩:=key hv
 refine ⟨a,vs,PySem.W.mg_of X G e,ha,h1,fun h' X'=>⟨_,es,ep,X' _ _ l,⟨rfl,rfl,rfl⟩,rfl,?_,h2,?_⟩⟩
 ·intro en he
  exact h4 en (Array.mem_toList_iff.mpr he)
 ·rw [h3]
  have:ks.map (fun kv=>(Sum.inl kv.1:Key))=(ks.map (·.1)).map Sum.inl:=by rw [List.map_map];rfl
  rw [this]
  exact List.Pairwise.map _ (fun a b hab z=>hab (Sum.inl.inj z)) nd
structure XText (K:PySem.W.Frag) (C N:Addr):Prop where
 cls:∃dd nm bs q sn sub ab col k0 k1 k2 k3 k5,K.lookup C=some ⟨.type "type",dd,.cls ⟨nm,bs,[.ref C,.type "Exception",.type "BaseException",.type "object"],N,q,true,sn,sub,ab,col,false⟩,#[k0,k1,k2,k3,some (.builtin "Exception.__new__"),k5]⟩
 ns:strNs K N=true
theorem str_ns {N:Addr} {oc:Value} {od:Option Addr} {es:Array DictEntry} {ep:Nat} {sl:Array (Option Value)} (l:K.lookup N=some ⟨oc,od,.dict es ep,sl⟩) (hs:(es.toList.all fun e=>match e.key with | .str _ _=>true | _=>false)=true):strNs K N=true:=by
 unfold strNs
 rw [l]
 exact hs
theorem XText.exc {C N:Addr} (T:XText K C N):excIn K C=true:=by
 obtain ⟨dd,nm,bs,q,sn,sub,ab,col,k0,k1,k2,k3,k5,l⟩:=T.cls
 unfold excIn
 rw [l]
 simp only [T.ns,beq_self_eq_true,Bool.not_false,Bool.true_and]
theorem XText.own {C N:Addr} (T:XText K C N) {name:Str} {r:Option (Option Value)} (e:PySem.W.nsIn K N name=r):PySem.W.ownIn K name (.ref C)=r:=by
 obtain ⟨dd,nm,bs,q,sn,sub,ab,col,k0,k1,k2,k3,k5,l⟩:=T.cls
 unfold PySem.W.ownIn
 dsimp only
 rw [l]
 exact e
theorem exm_mk {cls:Value} {D:Addr} {b:Bool} (h1:PySem.W.isClsIn K D=true) (h2:PySem.W.typeIn K (.ref D)=some (.type "type")) (h3:PySem.W.subIn K (.ref D) (.type "BaseException")=some true) (h4:PySem.W.subIn K cls (.ref D)=some b):
 PySem.W.exmOne K cls (.ref D)=some b:=by
 unfold PySem.W.exmOne
 rw [h3,if_pos (show (some true==some true)=true by decide)]
 unfold PySem.W.kitCls
 dsimp only
 rw [if_pos]
 ·exact h4
 ·rw [h2,Bool.and_eq_true]
  exact ⟨h1,by decide +kernel⟩
end
end L2
namespace L2
open PySem PySem.Spec PyProof.Rows
def tCallV (P:Program) (w:World) (K:PySem.W.Frag) (mg:Str→Option Value) (base:Heap) (CX:CXT) (k:Nat) (E:XK) (i:Nat) (t:TA):TE:=fun σ H Q=>∃f fd ps sp,σ[i]?=some (some (V.ref f))∧FnOk P w K mg base CX k f fd ps sp∧PySem.W.keepIn K (.ref f)=true∧Binds K fd ps []∧t σ H fun vs H1=>sp vs H1 Q E
theorem pe_callv {X:Cx} {CX:CXT} {k:Nat} {E:XK} {x:Str} {p pos:Pos} {e:Expr} {es:List Expr} {t:TA} (i:Nat) (hr:Room k X.A) (hx:Passes CX X E) (ha:PA X (e::es) t) (hN:X.N[i]?=some x:=by rfl)
 (hv:Vis X.env.scope x:=by first | exact Or.inl rfl | exact Or.inr (Or.inl rfl) | exact Or.inr (Or.inr rfl)) (hd:(x==("__debug__":Str))=false:=by decide) (hcd:(x==("__classdict__":Str))=false:=by decide)
 (he:starEach (e::es) X.env=(false,eval e X.env)::starEach es X.env:=by rfl) (hpl:(backTo pos (starEach es X.env)).any (·.1)=false:=by rfl):PE X (.Call (.Name x p) (e::es) [] pos) (tCallV X.prog X.w X.K X.mg X.base CX k E i t):=by
 intro pins s σ H Q I h
 obtain ⟨f,fd,ps,sp,hi,F,hk,hb,q⟩:=h
 refine wpAny_Call_Name_kw (thn (pe_var (pos:=p) hN hv hd hcd pins s σ H (fun v H1=>v=.ref f∧H=H1) I ⟨_,hi,rfl,rfl⟩) fun fv s1 ⟨v,H1,I1,r,e1,e2⟩=>?_)
 subst e1 e2
 cases r
 refine PySem.W.callWith_K (h₀:=X.base) I.ok.mod.kin hk (thn (ha pos pins s1 σ _ _ I1 q) fun us s2 ⟨vs,H2,I2,r2,q2⟩=>⟨I2.kIn,?_⟩) he hpl
 exact run_fn F hr hb .nil hx I2 r2 (by rw [List.append_nil];exact q2)
section
variable {X:Cx}
theorem keys_vals {P:Program} {w:World}:∀{kvs:List (Key×V)} {vs:List (Key×Value)} {us:List Value},KV kvs vs→us.length=vs.length→(∀(j:Nat) (v:Value),us[j]?=some v→∃k x,vs[j]?=some (k,x)∧(mixKind P w).is k v=true)→Vals (kvs.map fun kv=>kV kv.1) us
 | _,_,[],.nil,_,_=>.nil
 | _,_,_::_,.nil,hl,_=>by cases hl
 | _,_,[],.cons _ _,hl,_=>by cases hl
 | _,_,u::us,.cons (a:=kv) (b:=q) r t,hl,h=>by
  obtain ⟨k,x,e,hi⟩:=h 0 u rfl
  cases e
  refine .cons ?_ (keys_vals t (Nat.succ.inj hl) fun j v e=>h (j + 1) v e)
  show RelV (kV kv.1) u
  rw [show kv.1=k from r.1]
  have hi:keyIs k u=true:=hi
  cases k with
  | inl i=>exact Value.isInt_shape hi
  | inr z=>exact Value.isStrOf_shape hi
theorem call_list_keys (hc:X.calm=true):CallR X (.type "list") (fun xs H Q=>∃d kvs,xs=[.ref d]∧H d=some (.dK kvs)∧∀l,H l=none→Q (.ref l) (upd H l (.lst (kvs.map fun kv=>kV kv.1)))):=by
 intro pins s σ H xs us Q I r h
 obtain ⟨d,kvs,rfl,hd,q⟩:=h
 rw [Vals.ref1 r]
 obtain ⟨hz,lo,vs,rel,dd⟩:=I.hok _ _ hd
 obtain ⟨ep,da⟩:=dd.dictAt
 have hl:kvs.length=vs.length:=Paired.length rel
 refine PySem.W.kdl_call (PySem.W.kdl_dict lo) (I.ok.hd hc) da (by rw [←hl];exact hz) fun h' tk acc c kp e hacc=>?_
 have hv:Vals (kvs.map fun kv=>kV kv.1) acc.toList:=keys_vals rel (by rw [Array.length_toList];exact hacc.1) fun j v ej=>hacc.2 j v (by rw [←Array.getElem?_toList];exact ej)
 refine ⟨.ref _,_,I.laid (t':=tk) kp (Nat.le_refl _) ?_,rfl,q _ (I.hok.fresh (Nat.le_refl _))⟩
 exact ⟨by rw [List.length_map];exact hz,acc.toList,c,hv,by rw [Array.toArray_toList];exact e⟩
end
section
variable {X:Cx}
def rEqE (K:PySem.W.Frag):R2:=fun x y H Q=>∃a b xs ys,x=.ref a∧y=.ref b∧SqL K H a xs∧SqL K H b ys∧(xs.length≠ys.length∨(xs=[]∧ys=[]))∧Q (.bl (decide (xs.length=ys.length))) H
theorem op_eqE (hu:X.A.units < cLine):OpR X (compareOp .Eq) (rEqE X.K):=by
 intro pins s σ H x y v u Q I rx ry h
 obtain ⟨a,b,xs,ys,rfl,rfl,ha,hb,hl,q⟩:=h
 cases rx
 cases ry
 obtain ⟨i1,r1,l1,z1⟩:=I.list ha
 obtain ⟨i2,r2,l2,z2⟩:=I.list hb
 have e1:=r1.length
 have e2:=r2.length
 rcases hl with hl | ⟨rfl,rfl⟩
 ·rw [decide_eq_false hl] at q
  refine SeqAt.eq_list_lengthsAt l1.isList l2.isList ?_ hu ⟨.bl false,H,I,rfl,q⟩
  rw [bne_iff_ne,List.size_toArray,List.size_toArray]
  omega
 ·cases i1 with
  | cons=>cases e1
  | nil=>
   cases i2 with
   | cons=>cases e2
   | nil=>exact SeqAt.eq_listAt (e:=fun _=>true) l1.isList l2.isList rfl hu (fun j h1=>absurd h1 (Nat.not_lt_zero j)) ⟨.bl true,H,I,rfl,q⟩
end
end L2
namespace L2
open PySem PySem.Spec PyProof.Rows
theorem lri_len:typeLookup (.type "list_reverseiterator") "__len__"=pure none:=by rw [typeLookup_type,builtinLookup_eq_fast];kernel_rfl
theorem lri_hint:typeLookup (.type "list_reverseiterator") "__length_hint__"=pure (some (.builtin "list_reverseiterator.__length_hint__")):=by rw [typeLookup_type,builtinLookup_eq_fast];kernel_rfl
section
variable {prog:Program} {w:World} {A:Around} {E:Value→Shared→Prop} {s:Shared} {r:Addr} {Q:Bool→Shared→Prop}
theorem hint_rev (hT:s.TypeIs (.ref r) "list_reverseiterator") (h:Q false s):wpAny (model prog w) A (Builtin.List.listLengthHint (.ref r)) Q E s:=by
 unfold Builtin.List.listLengthHint
 refine wpAny_bind (wpAny_specialOf hT lri_len ?_)
 refine wpAny_bind (wpAny_specialOf hT lri_hint ?_)
 generalize hid:("list_reverseiterator.__length_hint__":String)=id0
 wp_delta
 rw [show splitId id0=some ("list_reverseiterator","__length_hint__") from by subst hid;decide +kernel]
 subst hid
 refine wpAny_bind (wpAny_isInstance (T:="list_reverseiterator") (b:=true) hT (by rw [isSubtype_type];kernel_rfl) ?_)
 refine wpAny_ite_split (fun hab=>absurd hab (by decide)) (fun _=>wpAny_ite_split (fun _=>?_) (fun hab=>absurd (by decide +kernel) hab))
 exact wpAny_ite_split (fun hab=>absurd hab (by decide +kernel)) fun _=>wpAny_pure h
end
section
variable {prog:Program} {w:World} {A:Around} {E:Value→Shared→Prop} {s:Shared} {it l:Addr} {items:Array Value}
theorem rev_extend {R:Result→Shared→Prop} {S:Addr} {c0:Nat} (hh:A.handled=none) (hl:s.heap.IsList l items) (hit:s.heap.IsRevIter it l ((items.size:Int) - 1)) (hz:items.size≤sizeLine) (hSi:S≠it) (hSl:S≠l) (hli:l≠it)
 (hS:s.heap.get? S=some {cls:=.type "list",data:=.seq #[] c0})
 (hR:∀h' tk acc c,(∀b o,b≠S→b≠it→s.heap.get? b=some o→h'.get? b=some o)→h'.get? S=some {cls:=.type "list",dict:=none,data:=.seq acc c,slots:=#[]}→ItemsOf (fun i v=>items[items.size - 1 - i]?=some v) acc items.size→R (.ok (.ret .none)) {s with heap:=h',toks:=tk}):
 wpAny (model prog w) A.in1 (Builtin.List.listExtendWith (.ref S) (.ref it) .none)
  (fun fin s'=>match fin with | .done f=>R (.ok f) s' | .again c'=>c'.quiet=true∧codeAny (model prog w) A c' R s') (fun e s'=>R (.error e) s') s:=by
 have hSf:S ∉ [it,l]:=fun z=>by
  rcases List.mem_cons.mp z with z | z
  ·exact hSi z
  ·exact hSl (List.mem_singleton.mp z)
 have W:=Walks.listRev (prog:=prog) (w:=w) (A:=A.in1) hh it l hli items
 have st0:0≤items.size∧s.heap.IsRevIter it l ((items.size:Int) - 1 - ((0:Nat):Int))∧s.heap.IsList l items:=⟨Nat.zero_le _,by rw [show ((items.size:Int) - 1 - ((0:Nat):Int))=(items.size:Int) - 1 by omega];exact hit,hl⟩
 unfold Builtin.List.listExtendWith
 refine wpAny_bind (wpAny_typeOf (T:="list_reverseiterator") hit.typeIs ?_)
 have n1:Builtin.List.listSameRef (.ref S) (.ref it)=false:=by simp [Builtin.List.listSameRef,hSi]
 have n2:(Value.type "list_reverseiterator"==Value.type "list")=false:=by decide
 have n3:(Value.type "list_reverseiterator"==Value.type "tuple")=false:=by decide
 simp only [n1,n2,n3,Bool.or_false,Bool.false_eq_true,if_false]
 refine wpAny_bind (W.self 0 _ _ _ st0 (wpAny_bind (wpAny_holding (hint_rev hit.typeIs ?_))))
 refine wpAny_ite_split (fun hab=>absurd hab (by decide +kernel)) fun _=>wpAny_pure ⟨plainId_quiet PySem.F.plain_extend_loop _,?_⟩
 refine codeAny_extend_loopS W.toS hz S hSf .none items.size 0 s #[] c0 rfl (Nat.zero_le _) st0 hS (ItemsOf.nil _) fun s' acc c hm hS' hacc=>?_
 rw [Moved.eq_with hm]
 refine hR s'.heap s'.toks acc c (fun b o h1 h2 e=>hm.heap b o (fun hmem=>?_) e) hS' hacc
 rcases List.mem_cons.mp hmem with z | z
 ·exact h1 z
 ·exact h2 (List.mem_singleton.mp z)
theorem rev_init {R:Result→Shared→Prop} {S:Addr} (hh:A.handled=none) (hl:s.heap.IsList l items) (hit:s.heap.IsRevIter it l ((items.size:Int) - 1)) (hz:items.size≤sizeLine) (hSi:S≠it) (hSl:S≠l) (hli:l≠it)
 (hS:s.heap.get? S=some {cls:=.type "list",data:=.seq #[]})
 (hR:∀h' tk acc c,(∀b o,b≠S→b≠it→s.heap.get? b=some o→h'.get? b=some o)→h'.get? S=some {cls:=.type "list",dict:=none,data:=.seq acc c,slots:=#[]}→ItemsOf (fun i v=>items[items.size - 1 - i]?=some v) acc items.size→R (.ok (.ret .none)) {s with heap:=h',toks:=tk}):
 wpAny (model prog w) A.in1 (Builtin.«list.__init__» ⟨[.ref S,.ref it],[]⟩)
  (fun fin s'=>match fin with | .done f=>R (.ok f) s' | .again c'=>c'.quiet=true∧codeAny (model prog w) A c' R s') (fun e s'=>R (.error e) s') s:=by
 show wpAny _ _ (do let old ←Builtin.List.listItems (.ref S);Builtin.List.listUpdate (.ref S) (fun _=>#[]);letGo old.toList.reverse;Builtin.List.listExtendWith (.ref S) (.ref it) .none) _ _ s
 refine wpAny_bind ?_
 unfold Builtin.List.listItems
 refine wpAny_bind (wpAny_seqItems hS rfl (wpAny_pure ?_))
 show wpAny _ _ (updateSeq S (fun _=>#[]) >>= fun _=>letGo (#[]:Array Value).toList.reverse >>= fun _=>Builtin.List.listExtendWith (.ref S) (.ref it) .none) _ _ s
 refine wpAny_bind (wpAny_updateSeq hS rfl (wpAny_bind (wpAny_letGo ?_)))
 have hS2:=Heap.get?_update_self (Obj.mapSeq (fun _=>(#[]:Array Value))) hS rfl
 have oth:∀b o,b≠S→s.heap.get? b=some o→(s.heap.update S (Obj.mapSeq (fun _=>(#[]:Array Value)))).get? b=some o:=fun b o hb e=>by rw [Heap.get?_update_other _ _ (Ne.symm hb)];exact e
 exact rev_extend (s:={s with heap:=s.heap.update S (Obj.mapSeq (fun _=>(#[]:Array Value)))}) hh (hl.at fun o e=>oth _ o hSl.symm e) (hit.at fun o e=>oth _ o hSi.symm e) hz hSi hSl hli hS2 fun h' tk acc c k e h=>hR h' tk acc c (fun b o h1 h2 eb=>k b o h1 h2 (oth b o h1 eb)) e h
theorem list_rev {Q:Value→Shared→Prop} (hh:A.handled=none) (hl:s.heap.IsList l items) (hit:s.heap.IsRevIter it l ((items.size:Int) - 1)) (hz:items.size≤sizeLine) (hli:l≠it)
 (hQ:∀h' tk acc c,(∀b o,b≠it→s.heap.get? b=some o→h'.get? b=some o)→h'.get? s.heap.objs.size=some {cls:=.type "list",dict:=none,data:=.seq acc c,slots:=#[]}→ItemsOf (fun i v=>items[items.size - 1 - i]?=some v) acc items.size→Q (.ref s.heap.objs.size) {s with heap:=h',toks:=tk}):
 wpAny (model prog w) A (call (.type "list") [.ref it]) Q E s:=by
 refine callType_codes (Q₁:=fun obj s1=>obj=.ref s.heap.objs.size∧s1={s with heap:=s.heap.push {cls:=.type "list",data:=.seq #[]}}) PySem.F.called_list (PySem.F.typeCall_list_1 _) PySem.F.entry_list_init (code_list_new _ ⟨rfl,rfl⟩) fun obj s1 h1=>?_
 obtain ⟨rfl,rfl⟩:=h1
 have hS:(s.heap.push {cls:=.type "list",data:=.seq #[]}).get? s.heap.objs.size=some {cls:=.type "list",data:=.seq #[]}:=Heap.get?_push_size _ rfl
 have lt1:it < s.heap.objs.size:=let ⟨_,ho,_⟩:=hit;Heap.lt_size ho
 have lt2:l < s.heap.objs.size:=let ⟨_,ho,_⟩:=hl;Heap.lt_size ho
 refine ⟨⟨_,hS,rfl⟩,PySem.F.args_list_init_2 _ _,rev_init (A:=A.in1) (s:={s with heap:=s.heap.push {cls:=.type "list",data:=.seq #[]}}) hh (hl.push _) (hit.at fun o e=>Heap.get?_push_of_some _ e) hz (Nat.ne_of_gt lt1) (Nat.ne_of_gt lt2) hli hS fun h' tk acc c k e h=>?_⟩
 exact ⟨rfl,hQ h' tk acc c (fun b o hb eb=>k b o (Nat.ne_of_lt (Heap.lt_size eb)) hb (Heap.get?_push_of_some _ eb)) e h⟩
end
section
variable {X:Cx} {e:Expr} {te:TE} {p p2 pos pos2:Pos}
theorem rev_vals:∀{xs:List V} {us:List Value},Vals xs us→Vals xs.reverse us.reverse
 | _,_,.nil=>.nil
 | _,_,.cons r t=>by
  rw [List.reverse_cons,List.reverse_cons]
  exact (rev_vals t).append (.cons r .nil)
def rListRev (K:PySem.W.Frag):V→Hp→VK→Prop:=fun x H Q=>∃a ys,x=.ref a∧SqL K H a ys∧∀l,H l=none→Q (.ref l) (upd H l (.lst ys.reverse))
theorem pe_listrev (he:PE X e te) (hm:X.mg "list"=none) (hm2:X.mg "reversed"=none) (hc:X.calm=true:=by rfl) (hg:Gl X "list":=by rfl) (hg2:Gl X "reversed":=by rfl)
 (h1:starEach [(.Call (.Name "reversed" p2) [e] [] pos2)] X.env=(false,eval (.Call (.Name "reversed" p2) [e] [] pos2) X.env)::starEach [] X.env:=by rfl) (h2:starEach [e] X.env=(false,eval e X.env)::starEach [] X.env:=by rfl)
 (h3:(backTo pos (starEach [] X.env)).any (·.1)=false:=by rfl) (h4:(backTo pos2 (starEach [] X.env)).any (·.1)=false:=by rfl):
 PE X (.Call (.Name "list" p) [.Call (.Name "reversed" p2) [e] [] pos2] [] pos) (tUn (rListRev X.K) te):=by
 intro pins s σ H Q I h
 refine wpAny_Call_Name_kw (ld_blt I hg hm boot_list ?_ (by decide) (by decide))
 refine PyProof.Rows.callWith_type1 ?_ h1 h3
 rw [h1]
 show wpAny _ _ (spliced ((false,eval _ X.env)::backTo pos (starEach [] X.env))) _ _ s
 refine Calls.spliced_cons ?_
 refine wpAny_Call_Name_kw (ld_blt I hg2 hm2 boot_reversed ?_ (by decide) (by decide))
 refine PyProof.Rows.callWith_type1 ?_ h2 h4
 rw [h2]
 show wpAny _ _ (spliced ((false,eval e X.env)::backTo pos2 (starEach [] X.env))) _ _ s
 refine Calls.spliced_cons (thn (he pins s σ H _ I h) fun u s1 ⟨x,H1,I1,ru,a,ys,ea,hs,q⟩=>Calls.spliced_nil ?_)
 rw [ea] at ru
 cases ru
 obtain ⟨its,rv,pl,hz⟩:=I1.list hs
 have hlen:=rv.length
 have hlt:a < s1.heap.objs.size:=let ⟨_,ho,_⟩:=pl.isList;Heap.lt_size ho
 refine call_reversed_list pl.isList (Calls.spliced_nil ?_)
 have hsz:its.toArray.size≤sizeLine:=by rw [List.size_toArray,←hlen];exact hz
 refine list_rev (l:=a) (items:=its.toArray) (I1.ok.hd hc) (pl.isList.push _) ⟨_,Heap.get?_push_size _ rfl,rfl,rfl⟩ hsz (Nat.ne_of_lt hlt) fun h' tk acc c k e hacc=>?_
 refine ⟨.ref _,_,I1.laid (t':=tk) (fun b o eb=>k b o (Nat.ne_of_lt (Heap.lt_size eb)) (Heap.get?_push_of_some _ eb)) ?_ ?_,rfl,q _ (I1.hok.fresh ?_)⟩
 ·show s1.heap.objs.size≤(s1.heap.push _).objs.size
  rw [Heap.size_push]
  exact Nat.le_succ _
 ·have ev:acc.toList=its.reverse:=by
   refine List.ext_getElem? fun j=>?_
   have l1:acc.size=its.length:=by rw [hacc.1,List.size_toArray]
   by_cases hj:j < its.length
   ·have hja:j < acc.size:=by omega
    have e1:=hacc.2 j acc[j] (Array.getElem?_eq_getElem hja)
    rw [Array.getElem?_toList,Array.getElem?_eq_getElem hja,List.getElem?_reverse hj,←e1,List.size_toArray,List.getElem?_toArray]
   ·rw [List.getElem?_eq_none (by rw [Array.length_toList];omega),List.getElem?_eq_none (by rw [List.length_reverse];omega)]
  refine ⟨by rw [List.length_reverse];exact hz,its.reverse,c,rev_vals rv,?_⟩
  rw [←ev,Array.toArray_toList]
  exact e
 ·show s1.heap.objs.size≤(s1.heap.push _).objs.size
  rw [Heap.size_push]
  exact Nat.le_succ _
end
end L2
namespace L2
open PySem PySem.Spec PyProof.Rows
def mxF (f:Nat→Int):Int→Nat→Nat→Int
 | m,_,0=>m
 | m,j,k + 1=>mxF f (if f j > m then f j else m) (j + 1) k
section
variable {prog:Program} {w:World} {A:Around} {R:Result→Shared→Prop} {I:Addr} {fp wr:List Addr} {n:Nat} {P:Nat→Value→Prop} {St:Nat→Heap→Prop} {kw:List (Str×Value)}
theorem gt_rich {op:Int→Int→Bool} {s:Shared} {Q:Value→Shared→Prop} {E:Value→Shared→Prop} {i j:Int} {t u:Tok} (h:Q (.bool (decide (i > j))) s):wpAny (model prog w) A (richCompare .Gt (.int i t) (.int j u)) Q E s:=
 richCompare_gives (op:=.Gt) (typeIs_int s _ t) (typeIs_int s _ u) PySem.F.slot_int_gt PySem.F.entry_int_gt (PySem.F.args_int_gt_2 _ _) (gives_int_gt _ _ t u) (fun x=>nomatch x) h
theorem mx_name:(toString "max"++toString ".loop":String)="max.loop":=by decide
theorem mx_loop (W:Walks prog w A.in1 I fp wr n P St) (f:Nat→Int) (hP:∀i v,P i v→∃t,v=.int (f i) t) {S:Addr} (hSf:S ∉ fp):
 ∀(k j:Nat) (s:Shared) (m:Int) (t:Tok) (c:Nat),n - j=k→j≤n→St j s.heap→s.heap.get? S=some {cls:=.type "list",dict:=none,data:=.seq #[.int m t,.int m t] c,slots:=#[]}→
 (∀t' h' tk,(∀b o,b ∉ wr→b≠S→s.heap.get? b=some o→h'.get? b=some o)→R (.ok (.ret (.int (mxF f m j k) t'))) {s with heap:=h',toks:=tk})→
 codeAny (model prog w) A (.builtin "max.loop" ⟨[.ref I,.none,.ref S],kw⟩) R s:=by
 have hSw:S ∉ wr:=fun h=>hSf (W.sub _ h)
 intro k
 induction k with
 | zero=>
  intro j s m t c hk hj hst hS hR
  obtain rfl:j=n:=by omega
  refine codeAny_builtin PySem.F.entry_max_loop ?_
  rw [Around.under_plainId PySem.F.plain_max_loop _]
  show wpAny _ _ (seqItems? (.ref S) >>= _) _ _ s
  refine wpAny_bind (wpAny_seqItems hS rfl ?_)
  show wpAny _ _ (tryCatch (pyNext (.ref I)) _ >>= _) _ _ s
  refine wpAny_bind (wpAny_tryCatch (W.done s _ _ hst fun h' tk kp=>?_))
  show wpAny _ _ (updateSeq S (fun _=>#[]) >>= _) _ _ _
  refine wpAny_bind (wpAny_updateSeq (kp S _ hSw hS) rfl (wpAny_bind (wpAny_letGo (wpAny_pure (hR t _ tk fun b o h1 h2 e=>?_)))))
  rw [Heap.get?_update_other _ _ (Ne.symm h2)]
  exact kp b o h1 e
 | succ k ih=>
  intro j s m t c hk hj hst hS hR
  refine codeAny_builtin PySem.F.entry_max_loop ?_
  rw [Around.under_plainId PySem.F.plain_max_loop _]
  show wpAny _ _ (seqItems? (.ref S) >>= _) _ _ s
  refine wpAny_bind (wpAny_seqItems hS rfl ?_)
  show wpAny _ _ (tryCatch (pyNext (.ref I)) _ >>= _) _ _ s
  refine wpAny_bind (wpAny_tryCatch (W.item j s _ _ (by omega) hst fun v h' tk hv hst' kp=>?_))
  obtain ⟨tv,rfl⟩:=hP j v hv
  have hS':=kp S _ hSw hS
  show wpAny _ _ (tryCatch (holding [.int (f j) tv,.int (f j) tv] (richCompare .Gt (.int (f j) tv) (.int m t) >>= _)) _ >>= _) _ _ _
  refine wpAny_bind (wpAny_tryCatch (wpAny_holding (wpAny_bind (gt_rich (op:=fun _ _=>true) ?_))))
  refine wpAny_bind (wpAny_holding (wpAny_truthy_bool (wpAny_bind (wpAny_letGo (wpAny_pure ?_)))))
  by_cases hb:f j > m
  ·rw [decide_eq_true hb]
   simp only [if_true]
   refine wpAny_bind (wpAny_updateSeq hS' rfl (wpAny_bind (wpAny_letGo ?_)))
   rw [mx_name]
   refine wpAny_pure ⟨plainId_quiet PySem.F.plain_max_loop _,ih (j + 1) _ (f j) tv _ (by omega) (by omega) (W.frame _ _ _ hst' fun b hbf o e=>?_) (Heap.get?_update_self _ hS' rfl) fun t' h'' tk'' kp''=>?_⟩
   ·rw [Heap.get?_update_other _ _ (fun z:S=b=>hSf (by rw [z];exact hbf))]
    exact e
   ·have:=hR t' h'' tk'' fun b o h1 h2 e=>kp'' b o h1 h2 (by rw [Heap.get?_update_other _ _ (Ne.symm h2)];exact kp b o h1 e)
    rw [mxF,if_pos hb] at this
    exact this
  ·rw [decide_eq_false hb]
   simp only [Bool.false_eq_true,if_false]
   refine wpAny_bind (wpAny_letGo ?_)
   rw [mx_name]
   refine wpAny_pure ⟨plainId_quiet PySem.F.plain_max_loop _,ih (j + 1) _ m t c (by omega) (by omega) hst' hS' fun t' h'' tk'' kp''=>?_⟩
   have:=hR t' h'' tk'' fun b o h1 h2 e=>kp'' b o h1 h2 (kp b o h1 e)
   rw [mxF,if_neg hb] at this
   exact this
theorem mx_first (W:Walks prog w A.in1 I fp wr n P St) (f:Nat→Int) (hP:∀i v,P i v→∃t,v=.int (f i) t) {S:Addr} (hSf:S ∉ fp) {s:Shared} {c:Nat} {d:Int} {td:Tok} (hst:St 0 s.heap) (hS:s.heap.get? S=some {cls:=.type "list",dict:=none,data:=.seq #[] c,slots:=#[]})
 (hR:∀t' h' tk,(∀b o,b ∉ wr→b≠S→s.heap.get? b=some o→h'.get? b=some o)→R (.ok (.ret (.int (if n=0 then d else mxF f (f 0) 1 (n - 1)) t'))) {s with heap:=h',toks:=tk}):
 codeAny (model prog w) A (.builtin "max.loop" ⟨[.ref I,.none,.ref S],[("default",.int d td)]⟩) R s:=by
 have hSw:S ∉ wr:=fun h=>hSf (W.sub _ h)
 refine codeAny_builtin PySem.F.entry_max_loop ?_
 rw [Around.under_plainId PySem.F.plain_max_loop _]
 show wpAny _ _ (seqItems? (.ref S) >>= _) _ _ s
 refine wpAny_bind (wpAny_seqItems hS rfl ?_)
 show wpAny _ _ (tryCatch (pyNext (.ref I)) _ >>= _) _ _ s
 by_cases hn:n=0
 ·subst hn
  refine wpAny_bind (wpAny_tryCatch (W.done s _ _ hst fun h' tk kp=>?_))
  refine wpAny_bind (wpAny_rule (wpAny_pure ?_))
  exact hR td h' tk fun b o h1 _ e=>kp b o h1 e
 ·refine wpAny_bind (wpAny_tryCatch (W.item 0 s _ _ (by omega) hst fun v h' tk hv hst' kp=>?_))
  obtain ⟨tv,rfl⟩:=hP 0 v hv
  have hS':=kp S _ hSw hS
  show wpAny _ _ (updateSeq S (fun _=>#[.int (f 0) tv,.int (f 0) tv]) >>= _) _ _ _
  refine wpAny_bind (wpAny_updateSeq hS' rfl ?_)
  rw [mx_name]
  refine wpAny_pure ⟨plainId_quiet PySem.F.plain_max_loop _,mx_loop W f hP hSf (n - 1) 1 _ (f 0) tv _ rfl (by omega) (W.frame _ _ _ hst' fun b hbf o e=>?_) (Heap.get?_update_self _ hS' rfl) fun t' h'' tk'' kp''=>?_⟩
  ·rw [Heap.get?_update_other _ _ (fun z:S=b=>hSf (by rw [z];exact hbf))]
   exact e
  ·have:=hR t' h'' tk'' fun b o h1 h2 e=>kp'' b o h1 h2 (by rw [Heap.get?_update_other _ _ (Ne.symm h2)];exact kp b o h1 e)
   rw [if_neg hn] at this
   exact this
end
section
variable {prog:Program} {w:World} {A:Around} {E:Value→Shared→Prop} {s:Shared}
theorem max_chk (a b:Value):checkBuiltinCall "max" ⟨[a],[("default",b)]⟩=pure ():=by kernel_rfl
theorem max_bind (b:Value):Builtin.Builtins.bindParams "max" ["key","default"] 0 ⟨[],[("default",b)]⟩=pure [none,some b]:=by kernel_rfl
theorem call_max_d {Q:Value→Shared→Prop} {l:Addr} {ns:List Int} {its:List Value} {d:Int} {td:Tok} (hh:A.handled=none) (hl:s.heap.IsList l its.toArray) (hv:Vals (ns.map V.int) its)
 (hQ:∀t' h' tk,(∀b o,s.heap.get? b=some o→h'.get? b=some o)→Q (.int (if ns.length=0 then d else mxF (fun i=>ns.getD i 0) (ns.getD 0 0) 1 (ns.length - 1)) t') {s with heap:=h',toks:=tk}):
 wpAny (model prog w) A (call (.builtin "max") [.ref l] [("default",.int d td)]) Q E s:=by
 refine wpAny_call (codeAny_call_builtin PySem.F.plain_max PySem.F.entry_max ?_)
 refine wpAny_of_eq (a:=()) (max_chk _ _) ?_
 show wpAny _ A.in1 (Builtin.Builtins.bindParams "max" ["key","default"] 0 ⟨[],[("default",.int d td)]⟩ >>= _) _ _ s
 refine wpAny_bind (wpAny_of_eq (a:=[none,some (.int d td)]) (max_bind _) (wpAny_bind (wpAny_pure (wpAny_bind ?_))))
 refine iter_any hl fun s2 e2 st hne=>?_
 refine wpAny_bind (wpAny_newObj_type ?_)
 have hlt:l < s.heap.objs.size:=let ⟨_,ho,_⟩:=hl;Heap.lt_size ho
 have sz2:s2.heap.objs.size=s.heap.objs.size + 1:=by rw [e2];exact Heap.size_push _ _
 have hSf:s2.heap.objs.size ∉ [s.heap.objs.size,l]:=fun z=>by
  rcases List.mem_cons.mp z with z | z
  ·omega
  ·exact Nat.lt_irrefl _ (Nat.lt_of_lt_of_le hlt (by rw [←List.mem_singleton.mp z,sz2];exact Nat.le_succ _))
 rw [mx_name]
 have hn:its.toArray.size=ns.length:=by rw [List.size_toArray,←hv.length,List.length_map]
 have hPv:∀(i:Nat) (v:Value),its.toArray[i]?=some v→∃t,v=.int (ns.getD i 0) t:=fun i v e=>by
  rw [List.getElem?_toArray] at e
  have hi:i < its.length:=(List.getElem?_eq_some_iff.mp e).1
  have hi':i < ns.length:=by rw [←List.length_map (f:=V.int),hv.length];exact hi
  obtain ⟨u,h1,h2⟩:=hv.get (i:=i) (x:=V.int (ns.getD i 0)) (by rw [List.getElem?_map,List.getElem?_eq_getElem hi',List.getD_eq_getElem?_getD,List.getElem?_eq_getElem hi'];rfl)
  rw [h1] at e
  cases e
  exact h2
 refine wpAny_pure ⟨plainId_quiet PySem.F.plain_max_loop _,?_⟩
 have W:=Walks.list (prog:=prog) (w:=w) (A:=A.in1) hh s.heap.objs.size l hne its.toArray
 refine mx_first W (fun i=>ns.getD i 0) hPv hSf (W.frame _ _ _ st fun b _ o e=>Heap.get?_push_of_some _ e) (Heap.get?_push_size _ rfl) fun t' h' tk kp=>?_
 rw [hn]
 subst e2
 refine hQ t' h' tk fun b o e=>kp b o (fun z=>?_) ?_ (Heap.get?_push_of_some _ (Heap.get?_push_of_some _ e))
 ·rw [List.mem_singleton] at z
  exact Nat.lt_irrefl _ (z▸Heap.lt_size e)
 ·exact Nat.ne_of_lt (Nat.lt_of_lt_of_le (Heap.lt_size e) (by rw [sz2];exact Nat.le_succ _))
end
def maxD (ns:List Int) (d:Int):Int:=if ns.length=0 then d else mxF (fun i=>ns.getD i 0) (ns.getD 0 0) 1 (ns.length - 1)
section
variable {X:Cx} {e f:Expr} {te tf:TE} {p pos kpos:Pos}
def rMaxD (K:PySem.W.Frag):R2:=fun x y H Q=>∃a ns d,x=.ref a∧y=.int d∧SqL K H a (ns.map V.int)∧Q (.int (maxD ns d)) H
theorem pe_maxd (he:PE X e te) (hf:PE X f tf) (hm:X.mg "max"=none) (hc:X.calm=true:=by rfl) (hg:Gl X "max":=by rfl)
 (h1:starEach [e] X.env=(false,eval e X.env)::starEach [] X.env:=by rfl)
 (h3:backTo pos (starEach [e] X.env)=(false,eval e X.env)::backTo pos (starEach [] X.env):=by rfl) (h4:(backTo pos (starEach [e] X.env)).any (·.1)=false:=by rfl)
 (h5:(backToKw pos (keywordEach [⟨some "default",f,kpos⟩] X.env)).all (·.1.isSome)=true:=by rfl) (h6:(backToKw pos (keywordEach [⟨some "default",f,kpos⟩] X.env)).any (·.1.isNone)=false:=by rfl):
 PE X (.Call (.Name "max" p) [e] [⟨some "default",f,kpos⟩] pos) (tOp (rMaxD X.K) te tf):=by
 intro pins s σ H Q I h
 refine wpAny_Call_Name_kw (ld_blt I hg hm boot_max ?_ (by decide) (by decide))
 refine PyProof.Rows.callWith_kw ?_ h3 h4 h5 h6
 rw [h1]
 show wpAny _ _ (spliced ((false,eval e X.env)::backTo pos (starEach [] X.env))) _ _ s
 refine Calls.spliced_cons (thn (he pins s σ H _ I h) fun u s1 ⟨x,H1,I1,ru,q1⟩=>Calls.spliced_nil ?_)
 refine PyProof.Rows.kws_cons (thn (hf pins s1 σ H1 _ I1 q1) fun u2 s2 ⟨y,H2,I2,ry,a,ns,d,ex,ey,hs,q⟩=>PyProof.Rows.kws_nil ?_)
 subst ex ey
 cases ru
 obtain ⟨td,rfl⟩:=ry
 obtain ⟨its,rv,pl,hz⟩:=I2.list hs
 show wpAny _ _ (call (.builtin "max") [.ref a] [("default",.int d td)]) _ _ _
 exact call_max_d (I2.ok.hd hc) pl.isList rv fun t' h' tk kp=>⟨.int _,H2,I2.kept (t':=tk) kp,⟨t',rfl⟩,q⟩
end
end L2
namespace Fm
open PySem PySem.Spec PyProof.Rows L2
def top (i:Nat):Stmt:=PySem.Challenge.pw_checkedformats_s01_answers.main.body.getD i (.Pass ⟨0,0,0,0⟩)
abbrev s_Amount_init:Stmt:=inClass (top 31) 0
abbrev s_Directive_init:Stmt:=inClass (top 32) 0
abbrev s_own_kind:Stmt:=top 33
abbrev s_taken_pairs:Stmt:=top 34
abbrev s_stars:Stmt:=top 35
abbrev s_WrongFormat_init:Stmt:=inClass (top 38) 0
abbrev s_is_right:Stmt:=top 43
abbrev s_sign_flags_fit:Stmt:=top 44
abbrev s_zero_fits:Stmt:=top 45
abbrev s_hash_fits:Stmt:=top 46
abbrev s_precision_fits:Stmt:=top 47
abbrev s_length_fits:Stmt:=top 48
abbrev s_stars_fit:Stmt:=top 49
abbrev s_Scanner_init:Stmt:=inClass (top 54) 0
abbrev s_Scanner_peek:Stmt:=inClass (top 54) 1
abbrev s_Scanner_take:Stmt:=inClass (top 54) 2
abbrev s_is_digit:Stmt:=top 55
abbrev s_scan_number:Stmt:=top 56
abbrev s_scan_argument:Stmt:=top 57
abbrev s_argument_is_next:Stmt:=top 58
abbrev s_scan_flags:Stmt:=top 59
abbrev s_scan_star:Stmt:=top 60
abbrev s_scan_written:Stmt:=top 61
abbrev s_scan_width:Stmt:=top 62
abbrev s_scan_precision:Stmt:=top 63
abbrev s_scan_length:Stmt:=top 64
abbrev s_scan_conversion:Stmt:=top 65
abbrev s_scan_directive:Stmt:=top 66
abbrev s_Format_init:Stmt:=inClass (top 69) 0
abbrev s_Format_highest_argument:Stmt:=inClass (top 69) 1
abbrev s_Format_kind_of:Stmt:=inClass (top 69) 2
abbrev s_Format_directive_at:Stmt:=inClass (top 69) 3
abbrev s_read_format:Stmt:=top 70
abbrev s_read_directive:Stmt:=top 71
abbrev s_add_directive:Stmt:=top 72
abbrev s_fits_in:Stmt:=top 73
abbrev s_number_in_order:Stmt:=top 74
abbrev s_least_difference:Stmt:=top 75
abbrev s_first_misuse:Stmt:=top 80
abbrev s_first_not_taken:Stmt:=top 81
abbrev s_unsigned_number:Stmt:=top 85
abbrev s_signed_number:Stmt:=top 86
abbrev s_digit_sign:Stmt:=top 87
abbrev s_digits_of:Stmt:=top 88
abbrev s_Argument_init:Stmt:=inClass (top 90) 0
abbrev s_read_arguments:Stmt:=top 91
abbrev s_check_arguments:Stmt:=top 92
abbrev s_asked_amount:Stmt:=top 93
abbrev s_Field_init:Stmt:=inClass (top 95) 0
abbrev s_render:Stmt:=top 96
abbrev s_plain_bytes:Stmt:=top 97
abbrev s_field_of:Stmt:=top 98
abbrev s_asked_precision:Stmt:=top 99
abbrev s_shown_text:Stmt:=top 100
abbrev s_signed_field:Stmt:=top 101
abbrev s_sign_of:Stmt:=top 102
abbrev s_unsigned_field:Stmt:=top 103
abbrev s_widened:Stmt:=top 104
abbrev s_Desk_init:Stmt:=inClass (top 106) 0
abbrev s_Desk_held:Stmt:=inClass (top 106) 1
abbrev s_CallReader_init:Stmt:=inClass (top 107) 0
abbrev s_CallReader_at_end:Stmt:=inClass (top 107) 1
abbrev s_CallReader_take:Stmt:=inClass (top 107) 2
abbrev s_CallReader_take_row:Stmt:=inClass (top 107) 3
abbrev s_answer_parse:Stmt:=top 108
abbrev s_answer_write:Stmt:=top 109
abbrev s_answer_count:Stmt:=top 110
abbrev s_answer_highest:Stmt:=top 111
abbrev s_answer_kind:Stmt:=top 112
abbrev s_answer_directive:Stmt:=top 113
abbrev s_answer_check:Stmt:=top 114
abbrev s_answer_same:Stmt:=top 115
abbrev s_answer_render:Stmt:=top 116
abbrev s_answer_call:Stmt:=top 118
abbrev s_answers:Stmt:=top 119
theorem sc_Amount_init:FnScope ["self"] ["self"] (defScope s_Amount_init):=⟨rfl,rfl,rfl,by decide +kernel,rfl,by decide +kernel,by decide +kernel⟩
theorem sc_Directive_init:FnScope ["self","place"] ["self","place"] (defScope s_Directive_init):=⟨rfl,rfl,rfl,by decide +kernel,rfl,by decide +kernel,by decide +kernel⟩
theorem sc_own_kind:FnScope ["directive","is_long"] ["directive"] (defScope s_own_kind):=⟨rfl,rfl,rfl,by decide +kernel,rfl,by decide +kernel,by decide +kernel⟩
theorem sc_taken_pairs:FnScope ["directive","pairs","amount"] ["directive"] (defScope s_taken_pairs):=⟨rfl,rfl,rfl,by decide +kernel,rfl,by decide +kernel,by decide +kernel⟩
theorem sc_stars:FnScope ["directive","amount"] ["directive"] (defScope s_stars):=⟨rfl,rfl,rfl,by decide +kernel,rfl,by decide +kernel,by decide +kernel⟩
theorem sc_WrongFormat_init:FnScope ["self","place"] ["self","place"] (defScope s_WrongFormat_init):=⟨rfl,rfl,rfl,by decide +kernel,rfl,by decide +kernel,by decide +kernel⟩
theorem sc_is_right:FnScope ["directive"] ["directive"] (defScope s_is_right):=⟨rfl,rfl,rfl,by decide +kernel,rfl,by decide +kernel,by decide +kernel⟩
theorem sc_sign_flags_fit:FnScope ["directive","plus","blank"] ["directive"] (defScope s_sign_flags_fit):=⟨rfl,rfl,rfl,by decide +kernel,rfl,by decide +kernel,by decide +kernel⟩
theorem sc_zero_fits:FnScope ["directive"] ["directive"] (defScope s_zero_fits):=⟨rfl,rfl,rfl,by decide +kernel,rfl,by decide +kernel,by decide +kernel⟩
theorem sc_hash_fits:FnScope ["directive"] ["directive"] (defScope s_hash_fits):=⟨rfl,rfl,rfl,by decide +kernel,rfl,by decide +kernel,by decide +kernel⟩
theorem sc_precision_fits:FnScope ["directive"] ["directive"] (defScope s_precision_fits):=⟨rfl,rfl,rfl,by decide +kernel,rfl,by decide +kernel,by decide +kernel⟩
theorem sc_length_fits:FnScope ["directive"] ["directive"] (defScope s_length_fits):=⟨rfl,rfl,rfl,by decide +kernel,rfl,by decide +kernel,by decide +kernel⟩
theorem sc_stars_fit:FnScope ["directive","amount"] ["directive"] (defScope s_stars_fit):=⟨rfl,rfl,rfl,by decide +kernel,rfl,by decide +kernel,by decide +kernel⟩
theorem sc_Scanner_init:FnScope ["self","row","place"] ["self","row","place"] (defScope s_Scanner_init):=⟨rfl,rfl,rfl,by decide +kernel,rfl,by decide +kernel,by decide +kernel⟩
theorem sc_Scanner_peek:FnScope ["self"] ["self"] (defScope s_Scanner_peek):=⟨rfl,rfl,rfl,by decide +kernel,rfl,by decide +kernel,by decide +kernel⟩
theorem sc_Scanner_take:FnScope ["self","sign"] ["self"] (defScope s_Scanner_take):=⟨rfl,rfl,rfl,by decide +kernel,rfl,by decide +kernel,by decide +kernel⟩
theorem sc_is_digit:FnScope ["sign"] ["sign"] (defScope s_is_digit):=⟨rfl,rfl,rfl,by decide +kernel,rfl,by decide +kernel,by decide +kernel⟩
theorem sc_scan_number:FnScope ["scanner","least","most","begin","number","digits","zero_before"] ["scanner","least","most"] (defScope s_scan_number):=⟨rfl,rfl,rfl,by decide +kernel,rfl,by decide +kernel,by decide +kernel⟩
theorem sc_scan_argument:FnScope ["scanner","number"] ["scanner"] (defScope s_scan_argument):=⟨rfl,rfl,rfl,by decide +kernel,rfl,by decide +kernel,by decide +kernel⟩
theorem sc_argument_is_next:FnScope ["scanner","ahead"] ["scanner"] (defScope s_argument_is_next):=⟨rfl,rfl,rfl,by decide +kernel,rfl,by decide +kernel,by decide +kernel⟩
theorem sc_scan_flags:FnScope ["scanner","flags","flag"] ["scanner"] (defScope s_scan_flags):=⟨rfl,rfl,rfl,by decide +kernel,rfl,by decide +kernel,by decide +kernel⟩
theorem sc_scan_star:FnScope ["scanner","amount"] ["scanner"] (defScope s_scan_star):=⟨rfl,rfl,rfl,by decide +kernel,rfl,by decide +kernel,by decide +kernel⟩
theorem sc_scan_written:FnScope ["scanner","least","amount"] ["scanner","least"] (defScope s_scan_written):=⟨rfl,rfl,rfl,by decide +kernel,rfl,by decide +kernel,by decide +kernel⟩
theorem sc_scan_width:FnScope ["scanner"] ["scanner"] (defScope s_scan_width):=⟨rfl,rfl,rfl,by decide +kernel,rfl,by decide +kernel,by decide +kernel⟩
theorem sc_scan_precision:FnScope ["scanner","empty"] ["scanner"] (defScope s_scan_precision):=⟨rfl,rfl,rfl,by decide +kernel,rfl,by decide +kernel,by decide +kernel⟩
theorem sc_scan_length:FnScope ["scanner","name","sign"] ["scanner"] (defScope s_scan_length):=⟨rfl,rfl,rfl,by decide +kernel,rfl,by decide +kernel,by decide +kernel⟩
theorem sc_scan_conversion:FnScope ["scanner","sign"] ["scanner"] (defScope s_scan_conversion):=⟨rfl,rfl,rfl,by decide +kernel,rfl,by decide +kernel,by decide +kernel⟩
theorem sc_scan_directive:FnScope ["scanner","directive"] ["scanner"] (defScope s_scan_directive):=⟨rfl,rfl,rfl,by decide +kernel,rfl,by decide +kernel,by decide +kernel⟩
theorem sc_Format_init:FnScope ["self","row"] ["self","row"] (defScope s_Format_init):=⟨rfl,rfl,rfl,by decide +kernel,rfl,by decide +kernel,by decide +kernel⟩
theorem sc_Format_highest_argument:FnScope ["self"] ["self"] (defScope s_Format_highest_argument):=⟨rfl,rfl,rfl,by decide +kernel,rfl,by decide +kernel,by decide +kernel⟩
theorem sc_Format_kind_of:FnScope ["self","argument"] ["self","argument"] (defScope s_Format_kind_of):=⟨rfl,rfl,rfl,by decide +kernel,rfl,by decide +kernel,by decide +kernel⟩
theorem sc_Format_directive_at:FnScope ["self","index"] ["self","index"] (defScope s_Format_directive_at):=⟨rfl,rfl,rfl,by decide +kernel,rfl,by decide +kernel,by decide +kernel⟩
theorem sc_read_format:FnScope ["row","found","at","directive"] ["row"] (defScope s_read_format):=⟨rfl,rfl,rfl,by decide +kernel,rfl,by decide +kernel,by decide +kernel⟩
theorem sc_read_directive:FnScope ["row","place","directive"] ["row","place"] (defScope s_read_directive):=⟨rfl,rfl,rfl,by decide +kernel,rfl,by decide +kernel,by decide +kernel⟩
theorem sc_add_directive:FnScope ["found","directive","argument","kind"] ["found","directive"] (defScope s_add_directive):=⟨rfl,rfl,rfl,by decide +kernel,rfl,by decide +kernel,by decide +kernel⟩
theorem sc_fits_in:FnScope ["found","directive"] ["found","directive"] (defScope s_fits_in):=⟨rfl,rfl,rfl,by decide +kernel,rfl,by decide +kernel,by decide +kernel⟩
theorem sc_number_in_order:FnScope ["found","directive","argument","amount"] ["found","directive"] (defScope s_number_in_order):=⟨rfl,rfl,rfl,by decide +kernel,rfl,by decide +kernel,by decide +kernel⟩
theorem sc_least_difference:FnScope ["one","other","argument"] ["one","other"] (defScope s_least_difference):=⟨rfl,rfl,rfl,by decide +kernel,rfl,by decide +kernel,by decide +kernel⟩
theorem sc_first_misuse:FnScope ["found","kinds","index","directive","argument","kind"] ["found","kinds"] (defScope s_first_misuse):=⟨rfl,rfl,rfl,by decide +kernel,rfl,by decide +kernel,by decide +kernel⟩
theorem sc_first_not_taken:FnScope ["found","kinds","argument"] ["found","kinds"] (defScope s_first_not_taken):=⟨rfl,rfl,rfl,by decide +kernel,rfl,by decide +kernel,by decide +kernel⟩
theorem sc_unsigned_number:FnScope ["value","length"] ["value","length"] (defScope s_unsigned_number):=⟨rfl,rfl,rfl,by decide +kernel,rfl,by decide +kernel,by decide +kernel⟩
theorem sc_signed_number:FnScope ["value","length","span","low"] ["value","length"] (defScope s_signed_number):=⟨rfl,rfl,rfl,by decide +kernel,rfl,by decide +kernel,by decide +kernel⟩
theorem sc_digit_sign:FnScope ["digit","conversion","first"] ["digit","conversion"] (defScope s_digit_sign):=⟨rfl,rfl,rfl,by decide +kernel,rfl,by decide +kernel,by decide +kernel⟩
theorem sc_digits_of:FnScope ["magnitude","conversion","least","base","backwards","rest"] ["magnitude","conversion","least"] (defScope s_digits_of):=⟨rfl,rfl,rfl,by decide +kernel,rfl,by decide +kernel,by decide +kernel⟩
theorem sc_Argument_init:FnScope ["self","kind","size","value"] ["self","kind","size","value"] (defScope s_Argument_init):=⟨rfl,rfl,rfl,by decide +kernel,rfl,by decide +kernel,by decide +kernel⟩
theorem sc_read_arguments:FnScope ["numbers","at"] ["numbers"] (defScope s_read_arguments):=⟨rfl,rfl,rfl,by decide +kernel,rfl,by decide +kernel,by decide +kernel⟩
theorem sc_check_arguments:FnScope ["found","arguments","pool","argument","directive","amount"] ["found","arguments","pool"] (defScope s_check_arguments):=⟨rfl,rfl,rfl,by decide +kernel,rfl,by decide +kernel,by decide +kernel⟩
theorem sc_asked_amount:FnScope ["amount","arguments"] ["amount","arguments"] (defScope s_asked_amount):=⟨rfl,rfl,rfl,by decide +kernel,rfl,by decide +kernel,by decide +kernel⟩
theorem sc_Field_init:FnScope ["self","before","body"] ["self","before","body"] (defScope s_Field_init):=⟨rfl,rfl,rfl,by decide +kernel,rfl,by decide +kernel,by decide +kernel⟩
theorem sc_render:FnScope ["found","numbers","pool","arguments","text","at","directive","field"] ["found","numbers","pool"] (defScope s_render):=⟨rfl,rfl,rfl,by decide +kernel,rfl,by decide +kernel,by decide +kernel⟩
theorem sc_plain_bytes:FnScope ["row","begin","end","plain","at"] ["row","begin","end"] (defScope s_plain_bytes):=⟨rfl,rfl,rfl,by decide +kernel,rfl,by decide +kernel,by decide +kernel⟩
theorem sc_field_of:FnScope ["directive","arguments","pool","argument","precision","least"] ["directive","arguments","pool"] (defScope s_field_of):=⟨rfl,rfl,rfl,by decide +kernel,rfl,by decide +kernel,by decide +kernel⟩
theorem sc_asked_precision:FnScope ["directive","arguments","asked"] ["directive","arguments"] (defScope s_asked_precision):=⟨rfl,rfl,rfl,by decide +kernel,rfl,by decide +kernel,by decide +kernel⟩
theorem sc_shown_text:FnScope ["argument","precision","pool","size"] ["argument","precision","pool"] (defScope s_shown_text):=⟨rfl,rfl,rfl,by decide +kernel,rfl,by decide +kernel,by decide +kernel⟩
theorem sc_signed_field:FnScope ["directive","number","least"] ["directive","number","least"] (defScope s_signed_field):=⟨rfl,rfl,rfl,by decide +kernel,rfl,by decide +kernel,by decide +kernel⟩
theorem sc_sign_of:FnScope ["directive","number","flag"] ["directive","number"] (defScope s_sign_of):=⟨rfl,rfl,rfl,by decide +kernel,rfl,by decide +kernel,by decide +kernel⟩
theorem sc_unsigned_field:FnScope ["directive","number","least","digits"] ["directive","number","least"] (defScope s_unsigned_field):=⟨rfl,rfl,rfl,by decide +kernel,rfl,by decide +kernel,by decide +kernel⟩
theorem sc_widened:FnScope ["field","directive","width","missing"] ["field","directive","width"] (defScope s_widened):=⟨rfl,rfl,rfl,by decide +kernel,rfl,by decide +kernel,by decide +kernel⟩
theorem sc_Desk_init:FnScope ["self"] ["self"] (defScope s_Desk_init):=⟨rfl,rfl,rfl,by decide +kernel,rfl,by decide +kernel,by decide +kernel⟩
theorem sc_Desk_held:FnScope ["self"] ["self"] (defScope s_Desk_held):=⟨rfl,rfl,rfl,by decide +kernel,rfl,by decide +kernel,by decide +kernel⟩
theorem sc_CallReader_init:FnScope ["self","numbers"] ["self","numbers"] (defScope s_CallReader_init):=⟨rfl,rfl,rfl,by decide +kernel,rfl,by decide +kernel,by decide +kernel⟩
theorem sc_CallReader_at_end:FnScope ["self"] ["self"] (defScope s_CallReader_at_end):=⟨rfl,rfl,rfl,by decide +kernel,rfl,by decide +kernel,by decide +kernel⟩
theorem sc_CallReader_take:FnScope ["self","number"] ["self"] (defScope s_CallReader_take):=⟨rfl,rfl,rfl,by decide +kernel,rfl,by decide +kernel,by decide +kernel⟩
theorem sc_CallReader_take_row:FnScope ["self","size","row"] ["self"] (defScope s_CallReader_take_row):=⟨rfl,rfl,rfl,by decide +kernel,rfl,by decide +kernel,by decide +kernel⟩
theorem sc_answer_parse:FnScope ["desk","reader"] ["desk","reader"] (defScope s_answer_parse):=⟨rfl,rfl,rfl,by decide +kernel,rfl,by decide +kernel,by decide +kernel⟩
theorem sc_answer_write:FnScope ["desk","reader","row"] ["desk","reader"] (defScope s_answer_write):=⟨rfl,rfl,rfl,by decide +kernel,rfl,by decide +kernel,by decide +kernel⟩
theorem sc_answer_count:FnScope ["desk","reader"] ["desk","reader"] (defScope s_answer_count):=⟨rfl,rfl,rfl,by decide +kernel,rfl,by decide +kernel,by decide +kernel⟩
theorem sc_answer_highest:FnScope ["desk","reader"] ["desk","reader"] (defScope s_answer_highest):=⟨rfl,rfl,rfl,by decide +kernel,rfl,by decide +kernel,by decide +kernel⟩
theorem sc_answer_kind:FnScope ["desk","reader","argument"] ["desk","reader"] (defScope s_answer_kind):=⟨rfl,rfl,rfl,by decide +kernel,rfl,by decide +kernel,by decide +kernel⟩
theorem sc_answer_directive:FnScope ["desk","reader","index","directive","taken"] ["desk","reader"] (defScope s_answer_directive):=⟨rfl,rfl,rfl,by decide +kernel,rfl,by decide +kernel,by decide +kernel⟩
theorem sc_answer_check:FnScope ["desk","reader","kinds","misuse"] ["desk","reader"] (defScope s_answer_check):=⟨rfl,rfl,rfl,by decide +kernel,rfl,by decide +kernel,by decide +kernel⟩
theorem sc_answer_same:FnScope ["desk","reader","row","original"] ["desk","reader"] (defScope s_answer_same):=⟨rfl,rfl,rfl,by decide +kernel,rfl,by decide +kernel,by decide +kernel⟩
theorem sc_answer_render:FnScope ["desk","reader","arguments","pool","text"] ["desk","reader"] (defScope s_answer_render):=⟨rfl,rfl,rfl,by decide +kernel,rfl,by decide +kernel,by decide +kernel⟩
theorem sc_answer_call:FnScope ["desk","reader","answerer","fault"] ["desk","reader"] (defScope s_answer_call):=⟨rfl,rfl,rfl,by decide +kernel,rfl,by decide +kernel,by decide +kernel⟩
theorem sc_answers:FnScope ["calls","desk","reader","told","answer"] ["calls"] (defScope s_answers):=⟨rfl,rfl,rfl,by decide +kernel,rfl,by decide +kernel,by decide +kernel⟩
end Fm
namespace Fm
open Fc
def val (n:Nat) (ds:Bytes):Nat:=ds.foldl (fun m c=>10 * m + (c.toNat - 48)) n
theorem digitsFrom_eq:∀(b:Bytes) (n k:Nat),∃ds r,b=ds++r∧(∀c∈ds,isDigit c=true)∧(∀c,r.head?=some c→isDigit c=false)∧
 digitsIn.digitsFrom n k b=(val n ds,k + ds.length,r)
 | [],n,k=>⟨[],[],rfl,by simp,by simp,rfl⟩
 | c::b,n,k=>by
  by_cases h:isDigit c=true
  ·obtain ⟨ds,r,e,h1,h2,h3⟩:=digitsFrom_eq b (10 * n + (c.toNat - 48)) (k + 1)
   refine ⟨c::ds,r,by rw [e];rfl,?_,h2,?_⟩
   ·intro x hx
    rcases List.mem_cons.mp hx with rfl | hx
    ·exact h
    ·exact h1 x hx
   ·rw [digitsIn.digitsFrom,if_pos h,h3]
    simp only [val,List.foldl_cons,List.length_cons]
    congr 2
    omega
  ·refine ⟨[],c::b,rfl,by simp,?_,?_⟩
   ·intro x hx
    cases hx
    exact Bool.eq_false_iff.mpr h
   ·rw [digitsIn.digitsFrom,if_neg h];rfl
theorem digitsIn_eq (b:Bytes):∃ds r,b=ds++r∧(∀c∈ds,isDigit c=true)∧(∀c,r.head?=some c→isDigit c=false)∧
 digitsIn b=(val 0 ds,ds.length,r):=by
 cases b with
 | nil=>exact ⟨[],[],rfl,by simp,by simp,rfl⟩
 | cons c b=>
  by_cases h:isDigit c=true
  ·obtain ⟨ds,r,e,h1,h2,h3⟩:=digitsFrom_eq b (c.toNat - 48) 1
   refine ⟨c::ds,r,by rw [e];rfl,?_,h2,?_⟩
   ·intro x hx
    rcases List.mem_cons.mp hx with rfl | hx
    ·exact h
    ·exact h1 x hx
   ·rw [digitsIn,if_pos h,h3]
    simp only [val,List.foldl_cons,List.length_cons]
    congr 2
    ·congr 1;omega
    ·omega
  ·refine ⟨[],c::b,rfl,by simp,?_,?_⟩
   ·intro x hx
    cases hx
    exact Bool.eq_false_iff.mpr h
   ·rw [digitsIn,if_neg h];rfl
theorem isDigit_iff {c:UInt8}:isDigit c=true↔48≤c.toNat∧c.toNat≤57:=by
 unfold isDigit
 rw [Bool.and_eq_true,decide_eq_true_iff,decide_eq_true_iff]
 exact Iff.rfl
theorem split_unique:∀{ds ds' r r':Bytes},ds++r=ds'++r'→(∀c∈ds,isDigit c=true)→(∀c∈ds',isDigit c=true)→
 (∀c,r.head?=some c→isDigit c=false)→(∀c,r'.head?=some c→isDigit c=false)→ds=ds'∧r=r'
 | [],[],_,_,e,_,_,_,_=>⟨rfl,e⟩
 | [],d::ds',r,r',e,_,h2,h3,_=>by
  have e':r=d::(ds'++r'):=e
  have:=h3 d (by rw [e'];rfl)
  rw [h2 d (by simp)] at this;cases this
 | d::ds,[],r,r',e,h1,_,_,h4=>by
  have e':r'=d::(ds++r):=e.symm
  have:=h4 d (by rw [e'];rfl)
  rw [h1 d (by simp)] at this;cases this
 | d::ds,d'::ds',r,r',e,h1,h2,h3,h4=>by
  have e1:d=d':=(List.cons.inj e).1
  have e2:ds++r=ds'++r':=(List.cons.inj e).2
  obtain ⟨x,y⟩:=split_unique e2 (fun c hc=>h1 c (List.mem_cons_of_mem _ hc)) (fun c hc=>h2 c (List.mem_cons_of_mem _ hc)) h3 h4
  exact ⟨by rw [e1,x],y⟩
theorem digitsIn_of {ds r:Bytes} (h1:∀c∈ds,isDigit c=true) (h2:∀c,r.head?=some c→isDigit c=false):digitsIn (ds++r)=(val 0 ds,ds.length,r):=by
 obtain ⟨ds',r',e,g1,g2,g3⟩:=digitsIn_eq (ds++r)
 obtain ⟨rfl,rfl⟩:=split_unique e h1 g1 h2 g2
 exact g3
theorem dec_lt {n:Nat} (h:n < 10):dec n=[UInt8.ofNat (n + 48)]:=by
 have:∀m:_root_.Fin 10,dec m.1=[UInt8.ofNat (m.1 + 48)]:=by decide
 exact this ⟨n,h⟩
theorem dec_snoc {n d:Nat} (hn:0 < n) (hd:d < 10):dec (10 * n + d)=dec n++[UInt8.ofNat (d + 48)]:=by
 unfold dec
 have h:=Nat.toDigits_append_toDigits (b:=10) (n:=n) (d:=d) (by decide) hn hd
 rw [←h,List.map_append]
 congr 1
 exact dec_lt hd
theorem val_snoc (n:Nat) (ds:Bytes) (c:UInt8):val n (ds++[c])=10 * val n ds + (c.toNat - 48):=by
 unfold val;rw [List.foldl_append];rfl
theorem ofNat_digit {c:UInt8} (h:isDigit c=true):UInt8.ofNat (c.toNat - 48 + 48)=c:=by
 obtain ⟨h1,_⟩:=isDigit_iff.mp h
 rw [Nat.sub_add_cancel h1]
 exact UInt8.ofNat_toNat
theorem dec_val_pos:∀(ds:Bytes) (n:Nat),0 < n→(∀c∈ds,isDigit c=true)→dec (val n ds)=dec n++ds
 | [],n,_,_=>by simp [val]
 | c::ds,n,hn,h=>by
  have hc:=h c (by simp)
  obtain ⟨h1,h2⟩:=isDigit_iff.mp hc
  have:=dec_val_pos ds (10 * n + (c.toNat - 48)) (by omega) (fun x hx=>h x (List.mem_cons_of_mem _ hx))
  show dec (val (10 * n + (c.toNat - 48)) ds)=_
  rw [this,dec_snoc hn (by omega),ofNat_digit hc,List.append_assoc]
  rfl
theorem dec_val {c:UInt8} {ds:Bytes} (h:∀x∈c::ds,isDigit x=true) (h0:c≠48):dec (val 0 (c::ds))=c::ds:=by
 have hc:=h c (by simp)
 obtain ⟨h1,h2⟩:=isDigit_iff.mp hc
 have hne:c.toNat≠48:=fun e=>h0 (UInt8.toNat_inj.mp e)
 show dec (val (10 * 0 + (c.toNat - 48)) ds)=_
 rw [dec_val_pos ds _ (by omega) (fun x hx=>h x (List.mem_cons_of_mem _ hx)),dec_lt (by omega)]
 have:10 * 0 + (c.toNat - 48) + 48=c.toNat - 48 + 48:=by omega
 rw [this,ofNat_digit hc]
 rfl
end Fm
namespace Fm
open Fc
def scanNum (least most:Nat) (b:Bytes):Option (Nat×Bytes):=
 match digitsIn b with
 | (n,k,r)=>if k=0∨(1 < k∧b.head?=some 48)∨¬(least≤n∧n≤most) then none else some (n,r)
def scanArg (b:Bytes):Option (Nat×Bytes):=
 match scanNum 1 ARGS b with
 | none=>none
 | some (n,r)=>if r.head?=some 36 then some (n,r.tail) else none
def argNext (b:Bytes):Bool:=match digitsIn b with
 | (_,k,r)=>decide (0 < k)&&r.head?==some 36
def headDigit (b:Bytes):Bool:=match b with
 | []=>false
 | c::_=>isDigit c
def scanFlags:Bytes→Bytes→Option (Bytes×Bytes)
 | got,[]=>some (got,[])
 | got,c::b=>if isFlag c=true then (if got.contains c=true then none else scanFlags (got++[c]) b) else some (got,c::b)
def scanStar (r:Bytes):Option (Size×Bytes):=
 if headDigit r=true then (scanArg r).map fun x=>(Size.arg x.1,x.2) else some (.next,r)
def scanWidth (b:Bytes):Option (Size×Bytes):=
 if b.head?=some 42 then scanStar b.tail
 else if headDigit b=true then (scanNum 1 WIDE b).map fun x=>(Size.is x.1,x.2)
 else some (.none,b)
def scanPoint (b:Bytes):Option (Size×Bytes):=
 if b.head?=some 42 then scanStar b.tail
 else if headDigit b=true then (scanNum 0 WIDE b).map fun x=>(Size.is x.1,x.2)
 else some (.empty,b)
def scanPrec (b:Bytes):Option (Size×Bytes):=if b.head?=some 46 then scanPoint b.tail else some (.none,b)
def scanPos (b:Bytes):Option (Option Nat×Bytes):=
 if argNext b=true then (scanArg b).map fun x=>(some x.1,x.2) else some (none,b)
def scanEnd (b:Bytes):Option ((Len×Conv×Bool)×Bytes):=(convIn (lenIn b).2).map fun x=>(((lenIn b).1,x.1,x.2.1),x.2.2)
def scanDir (b:Bytes):Option (Dir×Bytes):=
 (scanPos b).bind fun z=>(scanFlags [] z.2).bind fun f=>(scanWidth f.2).bind fun w=>(scanPrec w.2).bind fun q=>(scanEnd q.2).map fun e=>
  (⟨z.1,f.1,w.1,q.1,e.1.1,e.1.2.1,e.1.2.2⟩,e.2)
def starsOk (d:Dir):Bool:=
 (match d.width with | .arg _=>d.pos.isSome | .next=>d.pos.isNone | _=>true)&&(match d.prec with | .arg _=>d.pos.isSome | .next=>d.pos.isNone | _=>true)
def rightFlags (d:Dir):Bool:=
 (!(has d 43||has d 32)||(d.conv==.signed&&!(has d 43&&has d 32)))&&
 ((!has d 48||(isNumber d.conv&&(!has d 45&&d.prec==.none)))&&
 ((!has d 35||(d.conv==.octal||(d.conv==.hex||d.conv==.HEX)))&&
 ((d.prec==.none||d.conv != .char)&&((isNumber d.conv||d.len==.plain)&&starsOk d))))
def sizeOk (lo:Nat):Size→Bool
 | .is n=>decide (lo≤n)&&decide (n≤WIDE)
 | .arg n=>placeOk n
 | _=>true
def numsOk (d:Dir):Bool:=sizeOk 1 d.width&&(sizeOk 0 d.prec&&(match d.pos with | some n=>placeOk n | none=>true))
theorem bools:∀A B C w1 w2 p1 p2 F L O:Bool,(A&&B&&C&&(w1&&w2)&&(p1&&p2)&&F&&L&&O)=((A&&(B&&(C&&(F&&(L&&(w2&&p2))))))&&(w1&&(p1&&O))):=by decide
def wOk (pos:Option Nat):Size→Bool
 | .is n=>decide (1≤n)&&decide (n≤WIDE)
 | .arg n=>placeOk n&&pos.isSome
 | .next=>pos.isNone
 | _=>true
def pOk (pos:Option Nat):Size→Bool
 | .is n=>decide (n≤WIDE)
 | .arg n=>placeOk n&&pos.isSome
 | .next=>pos.isNone
 | _=>true
def sOk (pos:Option Nat):Size→Bool
 | .arg _=>pos.isSome
 | .next=>pos.isNone
 | _=>true
theorem wOk_eq (pos:Option Nat) (s:Size):wOk pos s=(sizeOk 1 s&&sOk pos s):=by cases s<;>simp [wOk,sizeOk,sOk]
theorem pOk_eq (pos:Option Nat) (s:Size):pOk pos s=(sizeOk 0 s&&sOk pos s):=by cases s<;>simp [pOk,sizeOk,sOk]
theorem starsOk_eq (d:Dir):starsOk d=(sOk d.pos d.width&&sOk d.pos d.prec):=rfl
theorem rightDir_eq (d:Dir):rightDir d=(rightFlags d&&numsOk d):=by
 have h:rightDir d=((!(has d 43||has d 32)||(d.conv==.signed&&!(has d 43&&has d 32)))&&
  (!has d 48||(isNumber d.conv&&(!has d 45&&d.prec==.none)))&&
  (!has d 35||(d.conv==.octal||(d.conv==.hex||d.conv==.HEX)))&&wOk d.pos d.width&&pOk d.pos d.prec&&
  (d.prec==.none||d.conv != .char)&&(isNumber d.conv||d.len==.plain)&&(match d.pos with | some n=>placeOk n | none=>true)):=rfl
 rw [h,wOk_eq,pOk_eq]
 exact bools _ _ _ _ _ _ _ _ _ _
def precIn (r:Bytes):Option (Size×Bytes):=match r with
 | 46::t=>sizeIn true t
 | _=>some (Size.none,r)
def posIn (b:Bytes):Option Nat×Bytes:=match numbered b with
 | some (n,r)=>(some n,r)
 | none=>(none,b)
theorem dirIn_eq (b:Bytes):dirIn b=(sizeIn false (flagsIn [] (posIn b).2).2).bind fun w=>(precIn w.2).bind fun q=>(scanEnd q.2).map fun e=>
 (⟨(posIn b).1,(flagsIn [] (posIn b).2).1,w.1,q.1,e.1.1,e.1.2.1,e.1.2.2⟩,e.2):=by
 unfold dirIn
 show (match sizeIn false (flagsIn [] (posIn b).2).2 with | none=>none | some (w,r)=>_)=_
 cases sizeIn false (flagsIn [] (posIn b).2).2 with
 | none=>rfl
 | some x=>
  obtain ⟨w,r⟩:=x
  show (match precIn r with | none=>none | some (q,t)=>_)=(precIn r).bind _
  cases precIn r with
  | none=>rfl
  | some y=>
   obtain ⟨q,t⟩:=y
   show (match convIn (lenIn t).2 with | none=>none | some (c,i,u)=>_)=(scanEnd t).map _
   unfold scanEnd
   cases convIn (lenIn t).2 with
   | none=>rfl
   | some z=>rfl
end Fm
namespace Fm
open Fc
theorem u8_all (p:UInt8→Bool) (h:(List.range 256).all (fun n=>p (UInt8.ofNat n))=true) (c:UInt8):p c=true:=by
 have:=List.all_eq_true.mp h c.toNat (List.mem_range.mpr c.toNat_lt)
 rwa [UInt8.ofNat_toNat] at this
theorem lenIn_plain {c:UInt8} {r:Bytes} (h1:c≠104) (h2:c≠108) (h3:c≠106) (h4:c≠122):lenIn (c::r)=(.plain,c::r):=by
 unfold lenIn
 split<;>simp_all
theorem convIn_none {c:UInt8} {r:Bytes} (h:c≠100∧c≠105∧c≠117∧c≠111∧c≠120∧c≠88∧c≠99∧c≠115):convIn (c::r)=none:=by
 unfold convIn
 split<;>simp_all
def stray (c:UInt8):Bool:=c != 104&&(c != 108&&(c != 106&&(c != 122&&(c != 100&&(c != 105&&(c != 117&&(c != 111&&(c != 120&&(c != 88&&(c != 99&&c != 115))))))))))
theorem scanEnd_stray {c:UInt8} {r:Bytes} (h:stray c=true):scanEnd (c::r)=none:=by
 unfold stray at h
 simp only [Bool.and_eq_true,bne_iff_ne] at h
 obtain ⟨a1,a2,a3,a4,a5,a6,a7,a8,a9,b1,b2,b3⟩:=h
 unfold scanEnd
 rw [lenIn_plain a1 a2 a3 a4,convIn_none ⟨a5,a6,a7,a8,a9,b1,b2,b3⟩]
 rfl
theorem stray_digit:∀{c:UInt8},isDigit c=true→stray c=true∧c≠46∧c≠42∧c≠36:=by
 intro c h
 have:=u8_all (fun c=>!isDigit c||(stray c&&(c != 46&&(c != 42&&c != 36)))) (by decide +kernel) c
 rw [h] at this
 simpa using this
theorem stray_flag:∀{c:UInt8},isFlag c=true→stray c=true∧c≠46∧c≠42∧(c=48∨isDigit c=false):=by
 intro c h
 have:=u8_all (fun c=>!isFlag c||(stray c&&(c != 46&&(c != 42&&(c==48||!isDigit c))))) (by decide +kernel) c
 rw [h] at this
 simpa using this
theorem precIn_other {c:UInt8} {r:Bytes} (h:c≠46):precIn (c::r)=some (.none,c::r):=by
 unfold precIn
 split
 ·rename_i h';cases h';exact absurd rfl h
 ·rfl
theorem headDigit_iff {b:Bytes}:headDigit b=true↔∃c r,b=c::r∧isDigit c=true:=by
 cases b with
 | nil=>simp [headDigit]
 | cons c r=>simp [headDigit]
theorem digits_split {b:Bytes} (h:headDigit b=true):∃c ds r,b=c::(ds++r)∧(∀x∈c::ds,isDigit x=true)∧(∀x,r.head?=some x→isDigit x=false)∧digitsIn b=(val 0 (c::ds),ds.length + 1,r):=by
 obtain ⟨ds,r,e,h1,h2,h3⟩:=digitsIn_eq b
 obtain ⟨c,t,rfl,hc⟩:=headDigit_iff.mp h
 cases ds with
 | nil=>
  have e':r=c::t:=e.symm
  have:=h2 c (by rw [e'];rfl)
  rw [hc] at this;cases this
 | cons d ds=>
  have e1:c=d:=(List.cons.inj e).1
  subst e1
  exact ⟨c,ds,r,e,h1,h2,by rw [h3];rfl⟩
theorem digits_none {b:Bytes} (h:¬headDigit b=true):digitsIn b=(0,0,b):=by
 cases b with
 | nil=>rfl
 | cons c r=>
  rw [digitsIn]
  exact if_neg h
theorem scanNum_split {least most:Nat} {c:UInt8} {ds r:Bytes} (h1:∀x∈c::ds,isDigit x=true) (h2:∀x,r.head?=some x→isDigit x=false):
 scanNum least most (c::(ds++r))=if (ds≠[]∧c=48)∨¬(least≤val 0 (c::ds)∧val 0 (c::ds)≤most) then none else some (val 0 (c::ds),r):=by
 have e:digitsIn (c::(ds++r))=(val 0 (c::ds),ds.length + 1,r):=digitsIn_of (ds:=c::ds) h1 h2
 unfold scanNum
 rw [e]
 have e2:(ds.length + 1=0∨(1 < ds.length + 1∧some c=some 48)∨¬(least≤val 0 (c::ds)∧val 0 (c::ds)≤most))↔((ds≠[]∧c=48)∨¬(least≤val 0 (c::ds)∧val 0 (c::ds)≤most)):=by
  have:1 < ds.length + 1↔ds≠[]:=by
   cases ds with
   | nil=>simp
   | cons a l=>simp
  rw [this,Option.some.injEq]
  constructor
  ·rintro (h | h)
   ·omega
   ·exact h
  ·exact .inr
 by_cases hc:(ds≠[]∧c=48)∨¬(least≤val 0 (c::ds)∧val 0 (c::ds)≤most)
 ·rw [if_pos hc]
  exact if_pos (e2.mpr hc)
 ·rw [if_neg hc]
  exact if_neg fun q=>hc (e2.mp q)
theorem val_48:val 0 [48]=0:=rfl
theorem scanNum_one {most:Nat} {c:UInt8} {ds r:Bytes} {n:Nat} {t:Bytes} (h1:∀x∈c::ds,isDigit x=true) (h2:∀x,r.head?=some x→isDigit x=false) (h:scanNum 1 most (c::(ds++r))=some (n,t)):
 c≠48∧n=val 0 (c::ds)∧t=r∧1≤n∧n≤most:=by
 rw [scanNum_split h1 h2] at h
 split at h
 ·cases h
 ·rename_i hc
  have hb:1≤val 0 (c::ds)∧val 0 (c::ds)≤most:=Classical.byContradiction fun q=>hc (.inr q)
  cases h
  refine ⟨fun e=>?_,rfl,rfl,hb.1,hb.2⟩
  subst e
  cases ds with
  | nil=>exact absurd hb.1 (by rw [val_48];decide)
  | cons a l=>exact hc (.inl ⟨by simp,rfl⟩)
theorem numbered_split {c:UInt8} {ds r:Bytes} (h1:∀x∈c::ds,isDigit x=true) (h2:∀x,r.head?=some x→isDigit x=false):
 numbered (c::(ds++r))=if r.head?=some 36∧c≠48 then some (val 0 (c::ds),r.tail) else none:=by
 have e:digitsIn (c::(ds++r))=(val 0 (c::ds),ds.length + 1,r):=digitsIn_of (ds:=c::ds) h1 h2
 unfold numbered
 rw [e]
 cases r with
 | nil=>rfl
 | cons x t=>
  by_cases hx:x=36
  ·subst hx
   show (if 1≤ds.length + 1∧(c::(ds++36::t)).head?≠some 48 then some (val 0 (c::ds),t) else none)=_
   by_cases hc:c=48
   ·rw [if_neg (by simp [hc]),if_neg (by simp [hc])]
   ·rw [if_pos (by simp [hc]),if_pos (by simp [hc])]
    rfl
  ·rw [if_neg (by simp [hx])]
   split
   ·rename_i q;injection q with q1 q2;injection q2 with q3 q4;injection q4 with q5;exact absurd q5 hx
   ·rfl
theorem numbered_none {b:Bytes} (h:¬headDigit b=true):numbered b=none:=by
 unfold numbered
 rw [digits_none h]
 split
 ·rename_i q;injection q with q1 q2;injection q2 with q3 q4;rw [if_neg (by omega)]
 ·rfl
theorem scanArg_some {b:Bytes} {n:Nat} {t:Bytes} (h:scanArg b=some (n,t)):numbered b=some (n,t)∧placeOk n=true:=by
 unfold scanArg at h
 by_cases hd:headDigit b=true
 ·obtain ⟨c,ds,r,rfl,h1,h2,_⟩:=digits_split hd
  cases e:scanNum 1 ARGS (c::(ds++r)) with
  | none=>rw [e] at h;cases h
  | some x=>
   obtain ⟨m,u⟩:=x
   rw [e] at h
   obtain ⟨g1,rfl,rfl,g4,g5⟩:=scanNum_one h1 h2 e
   dsimp only at h
   split at h
   ·rename_i h36
    cases h
    rw [numbered_split h1 h2,if_pos ⟨h36,g1⟩]
    refine ⟨rfl,?_⟩
    unfold placeOk
    simp [g4,g5]
   ·cases h
 ·have e:scanNum 1 ARGS b=none:=by
   unfold scanNum;rw [digits_none hd];simp
  rw [e] at h;cases h
theorem scanArg_none {b:Bytes} {n:Nat} {t:Bytes} (h:scanArg b=none) (hn:numbered b=some (n,t)):placeOk n=false:=by
 by_cases hd:headDigit b=true
 ·obtain ⟨c,ds,r,rfl,h1,h2,_⟩:=digits_split hd
  rw [numbered_split h1 h2] at hn
  split at hn
  ·rename_i hc
   cases hn
   unfold scanArg at h
   rw [scanNum_split h1 h2] at h
   by_cases hb:1≤val 0 (c::ds)∧val 0 (c::ds)≤ARGS
   ·rw [if_neg (by rintro (⟨_,q⟩ | q);exact hc.2 q;exact q hb)] at h
    dsimp only at h
    rw [if_pos hc.1] at h
    cases h
   ·unfold placeOk
    simp only [Bool.and_eq_false_iff,decide_eq_false_iff_not]
    exact (Classical.not_and_iff_not_or_not.mp hb)
  ·cases hn
 ·rw [numbered_none hd] at hn;cases hn
theorem sizeIn_star (p:Bool) (r:Bytes):sizeIn p (42::r)=match numbered r with | some (n,t)=>some (.arg n,t) | none=>some (.next,r):=rfl
theorem scanStar_some {p:Bool} {r:Bytes} {s:Size} {t:Bytes} {lo:Nat} (h:scanStar r=some (s,t)):sizeIn p (42::r)=some (s,t)∧sizeOk lo s=true:=by
 unfold scanStar at h
 rw [sizeIn_star]
 split at h
 ·cases e:scanArg r with
  | none=>rw [e] at h;cases h
  | some x=>
   rw [e] at h;cases h
   obtain ⟨g1,g2⟩:=scanArg_some (n:=x.1) (t:=x.2) e
   rw [g1]
   exact ⟨rfl,g2⟩
 ·rename_i hd
  cases h
  rw [numbered_none hd]
  exact ⟨rfl,rfl⟩
theorem scanStar_none {p:Bool} {r:Bytes} {s:Size} {t:Bytes} {lo:Nat} (h:scanStar r=none) (hs:sizeIn p (42::r)=some (s,t)):sizeOk lo s=false∨headDigit t=true:=by
 unfold scanStar at h
 rw [sizeIn_star] at hs
 split at h
 ·rename_i hd
  have e:scanArg r=none:=by
   cases e:scanArg r with
   | none=>rfl
   | some x=>rw [e] at h;cases h
  cases en:numbered r with
  | none=>rw [en] at hs;cases hs;exact .inr hd
  | some x=>
   rw [en] at hs;cases hs
   exact .inl (scanArg_none (n:=x.1) (t:=x.2) e en)
 ·cases h
theorem sizeIn_other {p:Bool} {b:Bytes} (h:b.head?≠some 42):sizeIn p b=match digitsIn b with
 | (_,0,_)=>some (if p=true then .empty else .none,b)
 | (n,k,r)=>if b.head?=some 48 then (if p=true∧k=1 then some (.is 0,r) else none) else some (.is n,r):=by
 unfold sizeIn
 split
 ·exact absurd rfl h
 ·rfl
theorem sizeIn_digits {p:Bool} {c:UInt8} {ds r:Bytes} (h1:∀x∈c::ds,isDigit x=true) (h2:∀x,r.head?=some x→isDigit x=false):
 sizeIn p (c::(ds++r))=if c=48 then (if p=true∧ds=[] then some (.is 0,r) else none) else some (.is (val 0 (c::ds)),r):=by
 have hc:=stray_digit (h1 c (by simp))
 have e:digitsIn (c::(ds++r))=(val 0 (c::ds),ds.length + 1,r):=digitsIn_of (ds:=c::ds) h1 h2
 rw [sizeIn_other (by simp [hc.2.2.1]),e]
 show (if some c=some 48 then (if p=true∧ds.length + 1=1 then some (Size.is 0,r) else none) else some (Size.is (val 0 (c::ds)),r))=_
 by_cases h:c=48
 ·rw [if_pos h,if_pos (show some c=some 48 by rw [h])]
  have:(p=true∧ds.length + 1=1)↔(p=true∧ds=[]):=by simp
  by_cases hq:p=true∧ds=[]
  ·rw [if_pos hq,if_pos (this.mpr hq)]
  ·rw [if_neg hq,if_neg fun z=>hq (this.mp z)]
 ·rw [if_neg h,if_neg (by simp [h])]
theorem sizeIn_none {p:Bool} {b:Bytes} (h:b.head?≠some 42) (hd:¬headDigit b=true):sizeIn p b=some (if p=true then .empty else .none,b):=by
 rw [sizeIn_other h,digits_none hd]
 rfl
theorem sizeNum_some {p:Bool} {lo:Nat} {b:Bytes} {n:Nat} {t:Bytes} (hp:lo=if p=true then 0 else 1) (hd:headDigit b=true) (h:scanNum lo WIDE b=some (n,t)):sizeIn p b=some (.is n,t)∧sizeOk lo (.is n)=true:=by
 obtain ⟨c,ds,r,rfl,h1,h2,_⟩:=digits_split hd
 rw [scanNum_split h1 h2] at h
 split at h
 ·cases h
 ·rename_i hc
  have hb:lo≤val 0 (c::ds)∧val 0 (c::ds)≤WIDE:=Classical.byContradiction fun q=>hc (.inr q)
  cases h
  refine ⟨?_,by simp [sizeOk,hb]⟩
  rw [sizeIn_digits h1 h2]
  by_cases h48:c=48
  ·subst h48
   cases ds with
   | nil=>
    cases p with
    | true=>rfl
    | false=>
     subst hp
     exact absurd hb.1 (by rw [val_48];decide)
   | cons a l=>exact absurd (Or.inl ⟨by simp,rfl⟩) hc
  ·rw [if_neg h48]
theorem sizeNum_none {p:Bool} {lo:Nat} {b:Bytes} {s:Size} {t:Bytes} (hp:lo=if p=true then 0 else 1) (hd:headDigit b=true) (h:scanNum lo WIDE b=none) (hs:sizeIn p b=some (s,t)):sizeOk lo s=false:=by
 obtain ⟨c,ds,r,rfl,h1,h2,_⟩:=digits_split hd
 rw [scanNum_split h1 h2] at h
 rw [sizeIn_digits h1 h2] at hs
 split at h
 ·rename_i hc
  by_cases h48:c=48
  ·rw [if_pos h48] at hs
   split at hs
   ·rename_i hq
    cases hs
    obtain ⟨rfl,rfl⟩:=hq
    subst h48 hp
    rcases hc with ⟨q,_⟩ | q
    ·exact absurd rfl q
    ·exact absurd ⟨Nat.zero_le _,by rw [val_48];decide⟩ q
   ·cases hs
  ·rw [if_neg h48] at hs
   cases hs
   have hb:¬(lo≤val 0 (c::ds)∧val 0 (c::ds)≤WIDE):=by
    rcases hc with ⟨_,q⟩ | q
    ·exact absurd q h48
    ·exact q
   simp only [sizeOk,Bool.and_eq_false_iff,decide_eq_false_iff_not]
   exact Classical.not_and_iff_not_or_not.mp hb
 ·cases h
theorem scanWidth_some {b:Bytes} {s:Size} {t:Bytes} (h:scanWidth b=some (s,t)):sizeIn false b=some (s,t)∧sizeOk 1 s=true:=by
 unfold scanWidth at h
 split at h
 ·rename_i h42
  cases b with
  | nil=>cases h42
  | cons c r=>
   cases h42
   exact scanStar_some h
 ·rename_i h42
  split at h
  ·rename_i hd
   cases e:scanNum 1 WIDE b with
   | none=>rw [e] at h;cases h
   | some x=>
    rw [e] at h;cases h
    exact sizeNum_some rfl hd e
  ·rename_i hd
   cases h
   exact ⟨sizeIn_none h42 hd,rfl⟩
theorem scanWidth_none {b:Bytes} {s:Size} {t:Bytes} (h:scanWidth b=none) (hs:sizeIn false b=some (s,t)):sizeOk 1 s=false∨headDigit t=true:=by
 unfold scanWidth at h
 split at h
 ·rename_i h42
  cases b with
  | nil=>cases h42
  | cons c r=>
   cases h42
   exact scanStar_none h hs
 ·rename_i h42
  split at h
  ·rename_i hd
   have e:scanNum 1 WIDE b=none:=by
    cases e:scanNum 1 WIDE b with
    | none=>rfl
    | some x=>rw [e] at h;cases h
   exact .inl (sizeNum_none (p:=false) rfl hd e hs)
  ·cases h
theorem precIn_point (r:Bytes):precIn (46::r)=sizeIn true r:=rfl
theorem precIn_no {b:Bytes} (h:¬b.head?=some 46):precIn b=some (.none,b):=by
 cases b with
 | nil=>rfl
 | cons c r=>exact precIn_other fun e=>h (by rw [e];rfl)
theorem scanPrec_some {b:Bytes} {s:Size} {t:Bytes} (h:scanPrec b=some (s,t)):precIn b=some (s,t)∧sizeOk 0 s=true:=by
 unfold scanPrec at h
 split at h
 ·rename_i h46
  cases b with
  | nil=>cases h46
  | cons c r=>
   cases h46
   rw [precIn_point]
   change scanPoint r=_ at h
   unfold scanPoint at h
   split at h
   ·rename_i h42
    cases r with
    | nil=>cases h42
    | cons c r=>
     cases h42
     exact scanStar_some h
   ·rename_i h42
    split at h
    ·rename_i hd
     cases e:scanNum 0 WIDE r with
     | none=>rw [e] at h;cases h
     | some x=>
      rw [e] at h;cases h
      exact sizeNum_some rfl hd e
    ·rename_i hd
     cases h
     exact ⟨sizeIn_none h42 hd,rfl⟩
 ·rename_i h46
  cases h
  exact ⟨precIn_no h46,rfl⟩
theorem scanPrec_none {b:Bytes} {s:Size} {t:Bytes} (h:scanPrec b=none) (hs:precIn b=some (s,t)):sizeOk 0 s=false∨headDigit t=true:=by
 unfold scanPrec at h
 split at h
 ·rename_i h46
  cases b with
  | nil=>cases h46
  | cons c r=>
   cases h46
   rw [precIn_point] at hs
   change scanPoint r=_ at h
   unfold scanPoint at h
   split at h
   ·rename_i h42
    cases r with
    | nil=>cases h42
    | cons c r=>
     cases h42
     exact scanStar_none h hs
   ·rename_i h42
    split at h
    ·rename_i hd
     have e:scanNum 0 WIDE r=none:=by
      cases e:scanNum 0 WIDE r with
      | none=>rfl
      | some x=>rw [e] at h;cases h
     exact .inl (sizeNum_none (p:=true) rfl hd e hs)
    ·cases h
 ·cases h
theorem scanFlags_some:∀{b got g r:Bytes},scanFlags got b=some (g,r)→flagsIn got b=(g,r)
 | [],got,g,r,h=>by cases h;rfl
 | c::b,got,g,r,h=>by
  rw [scanFlags] at h
  rw [flagsIn]
  split at h
  ·rename_i hf
   split at h
   ·cases h
   ·rename_i hg
    rw [if_pos (by rw [hf,Bool.eq_false_iff.mpr hg];rfl)]
    exact scanFlags_some h
  ·rename_i hf
   cases h
   rw [if_neg (by rw [Bool.eq_false_iff.mpr hf];simp)]
theorem scanFlags_none:∀{b got:Bytes},scanFlags got b=none→∃c r,(flagsIn got b).2=c::r∧isFlag c=true
 | [],got,h=>by cases h
 | c::b,got,h=>by
  rw [scanFlags] at h
  rw [flagsIn]
  split at h
  ·rename_i hf
   split at h
   ·rename_i hg
    rw [if_neg (by rw [hg];simp)]
    exact ⟨c,b,rfl,hf⟩
   ·rename_i hg
    rw [if_pos (by rw [hf,Bool.eq_false_iff.mpr hg];rfl)]
    exact scanFlags_none h
  ·cases h
theorem argNext_iff {b:Bytes}:argNext b=true↔∃c ds t,b=c::(ds++36::t)∧(∀x∈c::ds,isDigit x=true):=by
 unfold argNext
 by_cases hd:headDigit b=true
 ·obtain ⟨c,ds,r,rfl,h1,h2,e⟩:=digits_split hd
  rw [e]
  simp only [Nat.zero_lt_succ,decide_true,Bool.true_and,beq_iff_eq]
  constructor
  ·intro h
   cases r with
   | nil=>cases h
   | cons x t=>cases h;exact ⟨c,ds,t,rfl,h1⟩
  ·rintro ⟨c',ds',t,q,h3⟩
   have h4:∀x,(36::t:Bytes).head?=some x→isDigit x=false:=by
    intro x hx;cases hx;decide
   obtain ⟨_,rfl⟩:=split_unique (ds:=c::ds) (ds':=c'::ds') q h1 h3 h2 h4
   rfl
 ·rw [digits_none hd]
  simp only [Nat.lt_irrefl,decide_false,Bool.false_and,Bool.false_eq_true,false_iff]
  rintro ⟨c,ds,t,rfl,h⟩
  exact hd (headDigit_iff.mpr ⟨c,_,rfl,h c (by simp)⟩)
theorem dollar_no:∀x:UInt8,∀t:Bytes,(36::t:Bytes).head?=some x→isDigit x=false:=by
 intro x t hx;cases hx;decide
theorem scanPos_some {b:Bytes} {z:Option Nat} {t:Bytes} (h:scanPos b=some (z,t)):posIn b=(z,t)∧(∀n,z=some n→placeOk n=true):=by
 unfold scanPos at h
 unfold posIn
 split at h
 ·cases e:scanArg b with
  | none=>rw [e] at h;cases h
  | some x=>
   rw [e] at h;cases h
   obtain ⟨g1,g2⟩:=scanArg_some (n:=x.1) (t:=x.2) e
   rw [g1]
   exact ⟨rfl,fun n hn=>by cases hn;exact g2⟩
 ·rename_i ha
  cases h
  have:numbered b=none:=by
   by_cases hd:headDigit b=true
   ·obtain ⟨c,ds,r,rfl,h1,h2,e⟩:=digits_split hd
    rw [numbered_split h1 h2]
    rw [if_neg]
    rintro ⟨h36,_⟩
    refine ha (argNext_iff.mpr ?_)
    cases r with
    | nil=>cases h36
    | cons x t=>cases h36;exact ⟨c,ds,t,rfl,h1⟩
   ·exact numbered_none hd
  rw [this]
  exact ⟨rfl,fun n hn=>by cases hn⟩
theorem flagsIn_stop {got b:Bytes} {c:UInt8} (h:isFlag c=false∨got.contains c=true):flagsIn got (c::b)=(got,c::b):=by
 rw [flagsIn,if_neg]
 rcases h with h | h<;>rw [h]<;>simp
def restIn (b:Bytes):Option (Size×Size×(Len×Conv×Bool)×Bytes):=(sizeIn false b).bind fun w=>(precIn w.2).bind fun q=>(scanEnd q.2).map fun e=>(w.1,q.1,e.1,e.2)
theorem dirIn_rest (b:Bytes):dirIn b=(restIn (flagsIn [] (posIn b).2).2).map fun e=>(⟨(posIn b).1,(flagsIn [] (posIn b).2).1,e.1,e.2.1,e.2.2.1.1,e.2.2.1.2.1,e.2.2.1.2.2⟩,e.2.2.2):=by
 rw [dirIn_eq]
 unfold restIn
 cases sizeIn false (flagsIn [] (posIn b).2).2 with
 | none=>rfl
 | some w=>
  show (precIn w.2).bind _=((precIn w.2).bind _).map _
  cases precIn w.2 with
  | none=>rfl
  | some q=>
   show (scanEnd q.2).map _=((scanEnd q.2).map _).map _
   cases scanEnd q.2 with
   | none=>rfl
   | some e=>rfl
theorem restIn_of_tail {b:Bytes} (h:∀w r,sizeIn false b=some (w,r)→∃c t,r=c::t∧stray c=true∧c≠46):restIn b=none:=by
 unfold restIn
 cases e:sizeIn false b with
 | none=>rfl
 | some w=>
  obtain ⟨c,t,e1,e2,e3⟩:=h w.1 w.2 e
  show (precIn w.2).bind _=none
  rw [e1,precIn_other e3]
  show (scanEnd (c::t)).map _=none
  rw [scanEnd_stray e2]
  rfl
theorem stray_dollar:stray 36=true:=by decide
theorem zero_dollar {ds t:Bytes} (h:∀x∈ds,isDigit x=true):restIn (flagsIn [] (48::(ds++36::t))).2=none:=by
 have e1:flagsIn [] (48::(ds++36::t))=flagsIn [48] (ds++36::t):=by rw [flagsIn,if_pos (by decide)];rfl
 rw [e1]
 cases ds with
 | nil=>
  rw [List.nil_append,flagsIn_stop (.inl (by decide))]
  refine restIn_of_tail fun w r hw=>?_
  rw [sizeIn_none (by simp) (by simp [headDigit];decide)] at hw
  cases hw
  exact ⟨36,t,rfl,stray_dollar,by decide⟩
 | cons c ds=>
  have hc:=h c (by simp)
  have hs:flagsIn [48] (c::ds++36::t)=([48],c::ds++36::t):=by
   refine flagsIn_stop ?_
   by_cases h48:c=48
   ·subst h48;exact .inr (by decide)
   ·refine .inl ?_
    have:=u8_all (fun c=>!isDigit c||(c==48||!isFlag c)) (by decide +kernel) c
    rw [hc] at this
    simpa [h48] using this
  rw [hs]
  refine restIn_of_tail fun w r hw=>?_
  rw [List.cons_append,sizeIn_digits h (fun x=>dollar_no x t)] at hw
  split at hw
  ·split at hw
   ·cases hw;exact ⟨36,t,rfl,stray_dollar,by decide⟩
   ·cases hw
  ·cases hw;exact ⟨36,t,rfl,stray_dollar,by decide⟩
theorem flag_rest {c:UInt8} {r:Bytes} (h:isFlag c=true):restIn (c::r)=none:=by
 obtain ⟨h1,h2,h3,h4⟩:=stray_flag h
 by_cases h48:c=48
 ·subst h48
  unfold restIn
  have hd:headDigit (48::r)=true:=by simp [headDigit];decide
  obtain ⟨c,ds,t,e,g1,g2,_⟩:=digits_split hd
  rw [e,sizeIn_digits g1 g2]
  have:c=48:=(List.cons.inj e).1.symm
  rw [if_pos this,if_neg (by simp)]
  rfl
 ·refine restIn_of_tail fun w t hw=>?_
  have hd:¬headDigit (c::r)=true:=by
   rcases h4 with q | q
   ·exact absurd q h48
   ·simp [headDigit,q]
  rw [sizeIn_none (by simp [h3]) hd] at hw
  cases hw
  exact ⟨c,r,rfl,h1,h2⟩
theorem scanDir_some {b:Bytes} {d:Dir} {r:Bytes} (h:scanDir b=some (d,r)):dirIn b=some (d,r)∧numsOk d=true:=by
 unfold scanDir at h
 obtain ⟨z,hz,h⟩:=Option.bind_eq_some_iff.mp h
 obtain ⟨f,hf,h⟩:=Option.bind_eq_some_iff.mp h
 obtain ⟨w,hw,h⟩:=Option.bind_eq_some_iff.mp h
 obtain ⟨q,hq,h⟩:=Option.bind_eq_some_iff.mp h
 obtain ⟨e,he,h⟩:=Option.map_eq_some_iff.mp h
 obtain ⟨p1,p2⟩:=scanPos_some (z:=z.1) (t:=z.2) hz
 have p3:=scanFlags_some (g:=f.1) (r:=f.2) hf
 obtain ⟨p4,p5⟩:=scanWidth_some (s:=w.1) (t:=w.2) hw
 obtain ⟨p6,p7⟩:=scanPrec_some (s:=q.1) (t:=q.2) hq
 rw [dirIn_eq,p1]
 dsimp only
 rw [p3]
 dsimp only
 rw [p4]
 dsimp only [Option.bind]
 rw [p6]
 dsimp only
 rw [he]
 refine ⟨congrArg some h,?_⟩
 have hd:=congrArg Prod.fst h
 dsimp only at hd
 rw [←hd]
 unfold numsOk
 dsimp only
 rw [p5,p7]
 cases hz1:z.1 with
 | none=>rfl
 | some n=>simp [p2 n hz1]
theorem digit_rest {t:Bytes} (h:headDigit t=true):∃c u,t=c::u∧stray c=true∧c≠46:=by
 obtain ⟨c,u,e,hc⟩:=headDigit_iff.mp h
 obtain ⟨h1,h2,_⟩:=stray_digit hc
 exact ⟨c,u,e,h1,h2⟩
theorem scanDir_none {b:Bytes} {d:Dir} {r:Bytes} (h:scanDir b=none) (hd:dirIn b=some (d,r)):numsOk d=false:=by
 unfold scanDir at h
 cases hz:scanPos b with
 | none=>
  unfold scanPos at hz
  split at hz
  ·rename_i ha
   have e:scanArg b=none:=by
    cases e:scanArg b with
    | none=>rfl
    | some x=>rw [e] at hz;cases hz
   obtain ⟨c,ds,t,rfl,h1⟩:=argNext_iff.mp ha
   by_cases h48:c=48
   ·subst h48
    have hn:posIn (48::(ds++36::t))=(none,48::(ds++36::t)):=by
     unfold posIn
     rw [numbered_split h1 (fun x=>dollar_no x t),if_neg (by simp)]
    rw [dirIn_rest,hn] at hd
    dsimp only at hd
    rw [zero_dollar (fun x hx=>h1 x (List.mem_cons_of_mem _ hx))] at hd
    cases hd
   ·have hn:numbered (c::(ds++36::t))=some (val 0 (c::ds),t):=by
     rw [numbered_split h1 (fun x=>dollar_no x t),if_pos ⟨rfl,h48⟩]
     rfl
    have hp:posIn (c::(ds++36::t))=(some (val 0 (c::ds)),t):=by unfold posIn;rw [hn]
    have bad:=scanArg_none e hn
    rw [dirIn_rest,hp] at hd
    obtain ⟨x,_,hx⟩:=Option.map_eq_some_iff.mp hd
    have hx1:=congrArg (fun y=>y.1.pos) hx
    dsimp only at hx1
    unfold numsOk
    rw [←hx1]
    simp [bad]
  ·cases hz
 | some z=>
  rw [hz] at h
  obtain ⟨p1,p2⟩:=scanPos_some (z:=z.1) (t:=z.2) hz
  dsimp only [Option.bind] at h
  rw [dirIn_rest,p1] at hd
  dsimp only at hd
  cases hf:scanFlags [] z.2 with
  | none=>
   obtain ⟨c,u,e,hc⟩:=scanFlags_none hf
   rw [e,flag_rest hc] at hd
   cases hd
  | some f=>
   rw [hf] at h
   dsimp only at h
   have p3:=scanFlags_some (g:=f.1) (r:=f.2) hf
   rw [p3] at hd
   dsimp only at hd
   obtain ⟨x,hx,hd⟩:=Option.map_eq_some_iff.mp hd
   unfold restIn at hx
   obtain ⟨w,hw,hx⟩:=Option.bind_eq_some_iff.mp hx
   obtain ⟨q,hq,hx⟩:=Option.bind_eq_some_iff.mp hx
   obtain ⟨e,he,hx⟩:=Option.map_eq_some_iff.mp hx
   have hd1:d.width=w.1:=by rw [←congrArg (fun y=>y.1.width) hd,←congrArg (fun y=>y.1) hx]
   have hd2:d.prec=q.1:=by rw [←congrArg (fun y=>y.1.prec) hd,←congrArg (fun y=>y.2.1) hx]
   unfold numsOk
   rw [hd1,hd2]
   cases hsw:scanWidth f.2 with
   | none=>
    rcases scanWidth_none (s:=w.1) (t:=w.2) hsw hw with g | g
    ·rw [g];rfl
    ·obtain ⟨c,u,e1,e2,e3⟩:=digit_rest g
     rw [e1,precIn_other e3] at hq
     cases hq
     dsimp only at he
     rw [scanEnd_stray e2] at he
     cases he
   | some w'=>
    rw [hsw] at h
    dsimp only at h
    obtain ⟨p4,p5⟩:=scanWidth_some (s:=w'.1) (t:=w'.2) hsw
    have ew:w'=w:=Option.some.inj (p4.symm.trans hw)
    subst ew
    cases hsq:scanPrec w'.2 with
    | none=>
     rcases scanPrec_none (s:=q.1) (t:=q.2) hsq hq with g | g
     ·rw [g];simp
     ·obtain ⟨c,u,e1,e2,e3⟩:=digit_rest g
      rw [e1,scanEnd_stray e2] at he
      cases he
    | some q'=>
     rw [hsq] at h
     dsimp only at h
     obtain ⟨p6,p7⟩:=scanPrec_some (s:=q'.1) (t:=q'.2) hsq
     have eq:q'=q:=Option.some.inj (p6.symm.trans hq)
     subst eq
     rw [he] at h
     cases h
theorem scan_right (b:Bytes):((scanDir b).filter fun x=>rightFlags x.1)=(dirIn b).filter fun x=>rightDir x.1:=by
 cases h:scanDir b with
 | some x=>
  obtain ⟨h1,h2⟩:=scanDir_some (d:=x.1) (r:=x.2) h
  rw [h1]
  show (if rightFlags x.1=true then some x else none)=if rightDir x.1=true then some x else none
  rw [rightDir_eq,h2,Bool.and_true]
 | none=>
  cases hd:dirIn b with
  | none=>rfl
  | some x=>
   show none=if rightDir x.1=true then some x else none
   rw [rightDir_eq,scanDir_none (d:=x.1) (r:=x.2) h hd,Bool.and_false]
   rfl
end Fm
namespace Fm
open Fc
theorem numbered_spell {b:Bytes} {n:Nat} {r:Bytes} (h:numbered b=some (n,r)):b=dec n++(36::r):=by
 by_cases hd:headDigit b=true
 ·obtain ⟨c,ds,t,rfl,h1,h2,_⟩:=digits_split hd
  rw [numbered_split h1 h2] at h
  split at h
  ·rename_i hc
   cases h
   rw [dec_val h1 hc.2]
   cases t with
   | nil=>cases hc.1
   | cons x t=>
    cases hc.1
    rfl
  ·cases h
 ·rw [numbered_none hd] at h;cases h
theorem flagsIn_spell:∀{b got g r:Bytes},flagsIn got b=(g,r)→got++b=g++r
 | [],got,g,r,h=>by cases h;rfl
 | c::b,got,g,r,h=>by
  rw [flagsIn] at h
  split at h
  ·have:=flagsIn_spell h
   rw [←this,List.append_assoc]
   rfl
  ·cases h;rfl
theorem sizeIn_spell {p:Bool} {b:Bytes} {s:Size} {r:Bytes} (h:sizeIn p b=some (s,r)):b=spellSize s++r:=by
 by_cases h42:b.head?=some 42
 ·cases b with
  | nil=>cases h42
  | cons c t=>
   cases h42
   rw [sizeIn_star] at h
   cases e:numbered t with
   | none=>rw [e] at h;cases h;rfl
   | some x=>
    obtain ⟨n,u⟩:=x
    rw [e] at h;cases h
    have:=numbered_spell e
    show 42::t=42::(dec n++[36])++r
    rw [this]
    simp
 ·by_cases hd:headDigit b=true
  ·obtain ⟨c,ds,t,rfl,h1,h2,_⟩:=digits_split hd
   rw [sizeIn_digits h1 h2] at h
   split at h
   ·rename_i h48
    split at h
    ·rename_i hq
     cases h
     obtain ⟨_,rfl⟩:=hq
     subst h48
     rfl
    ·cases h
   ·rename_i h48
    cases h
    show _=dec (val 0 (c::ds))++r
    rw [dec_val h1 h48]
    rfl
  ·rw [sizeIn_none h42 hd] at h
   cases h
   cases p<;>rfl
theorem sizeIn_true_ne {b:Bytes} {s:Size} {r:Bytes} (h:sizeIn true b=some (s,r)):s≠.none:=by
 by_cases h42:b.head?=some 42
 ·cases b with
  | nil=>cases h42
  | cons c t=>
   cases h42
   rw [sizeIn_star] at h
   cases e:numbered t with
   | none=>rw [e] at h;cases h;intro q;cases q
   | some x=>rw [e] at h;cases h;intro q;cases q
 ·by_cases hd:headDigit b=true
  ·obtain ⟨c,ds,t,rfl,h1,h2,_⟩:=digits_split hd
   rw [sizeIn_digits h1 h2] at h
   split at h
   ·split at h
    ·cases h;intro q;cases q
    ·cases h
   ·cases h;intro q;cases q
  ·rw [sizeIn_none h42 hd] at h
   cases h;intro q;cases q
theorem precIn_spell {b:Bytes} {s:Size} {r:Bytes} (h:precIn b=some (s,r)):b=(if s=.none then [] else 46::spellSize s)++r:=by
 by_cases h46:b.head?=some 46
 ·cases b with
  | nil=>cases h46
  | cons c t=>
   cases h46
   rw [precIn_point] at h
   rw [if_neg (sizeIn_true_ne h),sizeIn_spell h]
   rfl
 ·rw [precIn_no h46] at h
  cases h
  rw [if_pos rfl]
  rfl
theorem lenIn_spell (b:Bytes):b=spellLen (lenIn b).1++(lenIn b).2:=by
 unfold lenIn
 split<;>rfl
theorem convIn_spell {b:Bytes} {c:Conv} {i:Bool} {r:Bytes} (h:convIn b=some (c,i,r)):b=spellConv c i++r:=by
 unfold convIn at h
 split at h<;>first | (cases h;rfl) | cases h
theorem scanEnd_spell {b:Bytes} {e:Len×Conv×Bool} {r:Bytes} (h:scanEnd b=some (e,r)):b=spellLen e.1++(spellConv e.2.1 e.2.2++r):=by
 unfold scanEnd at h
 obtain ⟨x,hx,h⟩:=Option.map_eq_some_iff.mp h
 obtain ⟨c,i,u⟩:=x
 have h1:=convIn_spell hx
 have e1:e=((lenIn b).1,c,i):=(congrArg Prod.fst h).symm
 have e2:r=u:=(congrArg Prod.snd h).symm
 subst e1 e2
 dsimp only
 rw [←h1]
 exact lenIn_spell b
theorem posIn_spell (b:Bytes):b=(match (posIn b).1 with | some n=>dec n++[36] | none=>[])++(posIn b).2:=by
 unfold posIn
 cases h:numbered b with
 | none=>rfl
 | some x=>
  obtain ⟨n,r⟩:=x
  show b=(dec n++[36])++r
  rw [List.append_assoc]
  exact numbered_spell h
theorem dirIn_spell {b:Bytes} {d:Dir} {r:Bytes} (h:dirIn b=some (d,r)):37::b=spell d++r:=by
 rw [dirIn_eq] at h
 obtain ⟨w,hw,h⟩:=Option.bind_eq_some_iff.mp h
 obtain ⟨q,hq,h⟩:=Option.bind_eq_some_iff.mp h
 obtain ⟨e,he,h⟩:=Option.map_eq_some_iff.mp h
 have s1:=posIn_spell b
 have s2:(posIn b).2=(flagsIn [] (posIn b).2).1++(flagsIn [] (posIn b).2).2:=flagsIn_spell (got:=[]) rfl
 have s3:=sizeIn_spell (s:=w.1) (r:=w.2) hw
 have s4:=precIn_spell (s:=q.1) (r:=q.2) hq
 have s5:=scanEnd_spell (e:=e.1) (r:=e.2) he
 have e1:=congrArg Prod.fst h
 have e2:e.2=r:=congrArg Prod.snd h
 dsimp only at e1
 subst e1
 unfold spell
 dsimp only
 rw [←e2]
 rw [List.cons_append]
 congr 1
 simp only [List.append_assoc]
 rw [←s5,←s4,←s3,←s2]
 exact s1
theorem spell_len {b:Bytes} {d:Dir} {r:Bytes} (h:dirIn b=some (d,r)):(spell d).length=1 + (b.length - r.length)∧r.length≤b.length:=by
 have:=congrArg List.length (dirIn_spell h)
 rw [List.length_append,List.length_cons] at this
 have h2:0 < (spell d).length:=by unfold spell;simp
 omega
end Fm
namespace Fm
open Fc
def kW (k:Nat) (d:Dir):Nat:=if d.width=.next then k + 1 else k
def kP (k:Nat) (d:Dir):Nat:=if d.prec=.next then kW k d + 1 else kW k d
def argOf (k:Nat) (d:Dir):Nat:=match d.pos with
 | some n=>n
 | none=>kP k d
def useOf (a k:Nat) (d:Dir):Use:=⟨a,d,sizeArg k d.width,sizeArg (kW k d) d.prec,argOf k d⟩
def stepK (k:Nat) (d:Dir):Nat:=match d.pos with
 | some _=>kP k d
 | none=>kP k d + 1
theorem usesFrom_dir (a k:Nat) (d:Dir) (r:List Piece):usesFrom a k (.dir d::r)=useOf a k d::usesFrom (a + (spell d).length) (stepK k d) r:=by
 rw [usesFrom]
 unfold useOf stepK argOf kP kW
 cases d.pos<;>rfl
def nextK:Nat→List Piece→Nat
 | k,[]=>k
 | k,.dir d::r=>nextK (stepK k d) r
 | k,_::r=>nextK k r
theorem spelling_cons (x:Piece) (l:List Piece):spelling (x::l)=spellPiece x++spelling l:=by
 unfold spelling;rw [List.flatMap_cons]
theorem spelling_append (l m:List Piece):spelling (l++m)=spelling l++spelling m:=by
 unfold spelling;rw [List.flatMap_append]
theorem spelling_one (x:Piece):spelling [x]=spellPiece x:=by
 unfold spelling;simp
theorem usesFrom_append:∀(l m:List Piece) (a k:Nat),usesFrom a k (l++m)=usesFrom a k l++usesFrom (a + (spelling l).length) (nextK k l) m
 | [],m,a,k=>by
  show usesFrom a k m=[]++usesFrom (a + 0) k m
  rfl
 | .dir d::l,m,a,k=>by
  rw [List.cons_append,usesFrom_dir,usesFrom_dir,usesFrom_append l m,spelling_cons,List.length_append]
  rw [List.cons_append,nextK,←Nat.add_assoc]
  rfl
 | .byte c::l,m,a,k=>by
  rw [List.cons_append]
  show usesFrom (a + 1) k (l++m)=usesFrom (a + 1) k l++_
  rw [usesFrom_append l m,spelling_cons,List.length_append,nextK,←Nat.add_assoc]
  ·rfl
  ·intro d h;cases h
 | .percent::l,m,a,k=>by
  rw [List.cons_append]
  show usesFrom (a + 2) k (l++m)=usesFrom (a + 2) k l++_
  rw [usesFrom_append l m,spelling_cons,List.length_append,nextK,←Nat.add_assoc]
  ·rfl
  ·intro d h;cases h
theorem nextK_append:∀(l m:List Piece) (k:Nat),nextK k (l++m)=nextK (nextK k l) m
 | [],_,_=>rfl
 | .dir d::l,m,k=>nextK_append l m (stepK k d)
 | .byte _::l,m,k=>nextK_append l m k
 | .percent::l,m,k=>nextK_append l m k
theorem uses_dir (l:List Piece) (d:Dir):uses (l++[.dir d])=uses l++[useOf (spelling l).length (nextK 1 l) d]:=by
 unfold uses
 rw [usesFrom_append,usesFrom_dir,Nat.zero_add]
 rfl
theorem uses_byte (l:List Piece) (c:UInt8):uses (l++[.byte c])=uses l:=by
 unfold uses
 rw [usesFrom_append]
 show _++[]=_
 simp
theorem uses_percent (l:List Piece):uses (l++[.percent])=uses l:=by
 unfold uses
 rw [usesFrom_append]
 show _++[]=_
 simp
theorem wants_of_uses {l m:List Piece} (h:uses l=uses m):wants l=wants m:=by unfold wants;rw [h]
theorem wants_dir (l:List Piece) (d:Dir):wants (l++[.dir d])=wants l++(useOf (spelling l).length (nextK 1 l) d).wants:=by
 unfold wants
 rw [uses_dir,List.flatMap_append]
 simp
theorem dirsOf_append (l m:List Piece):dirsOf (l++m)=dirsOf l++dirsOf m:=by unfold dirsOf;rw [List.filterMap_append]
theorem dirsOf_dir (l:List Piece) (d:Dir):dirsOf (l++[.dir d])=dirsOf l++[d]:=by rw [dirsOf_append];rfl
theorem dirsOf_byte (l:List Piece) (c:UInt8):dirsOf (l++[.byte c])=dirsOf l:=by rw [dirsOf_append];show _++[]=_;simp
theorem dirsOf_percent (l:List Piece):dirsOf (l++[.percent])=dirsOf l:=by rw [dirsOf_append];show _++[]=_;simp
theorem usesFrom_dirs:∀(l:List Piece) (a k:Nat),(usesFrom a k l).map (·.dir)=dirsOf l
 | [],_,_=>rfl
 | .dir d::l,a,k=>by
  rw [usesFrom_dir,List.map_cons,usesFrom_dirs l]
  rfl
 | .byte _::l,a,k=>usesFrom_dirs l (a + 1) k
 | .percent::l,a,k=>usesFrom_dirs l (a + 2) k
theorem uses_dirs (l:List Piece):(uses l).map (·.dir)=dirsOf l:=usesFrom_dirs l 0 1
def tableOf (ws:List (Nat×Nat)) (n:Nat):Nat:=(ws.find? fun x=>x.1==n).elim 0 fun x=>x.2
def Fits (ws:List (Nat×Nat)):Prop:=(∀x∈ws,x.1≤ARGS)∧∀x∈ws,∀y∈ws,x.1=y.1→x.2=y.2
theorem together_iff (l:List Piece):together l=true↔(((∀d∈dirsOf l,d.pos.isNone=true)∨(∀d∈dirsOf l,d.pos.isSome=true))∧(uses l).length≤DIRECTIVES∧Fits (wants l)):=by
 unfold together Fits
 simp only [Bool.and_eq_true,Bool.or_eq_true,List.all_eq_true,decide_eq_true_iff,bne_iff_ne,beq_iff_eq,ne_eq]
 constructor
 ·rintro ⟨h1,h2,h3,h4⟩
  exact ⟨h1,h2,h3,fun x hx y hy e=>(h4 x hx y hy).resolve_left fun q=>q e⟩
 ·rintro ⟨h1,h2,h3,h4⟩
  refine ⟨h1,h2,h3,fun x hx y hy=>?_⟩
  by_cases e:x.1=y.1
  ·exact .inr (h4 x hx y hy e)
  ·exact .inl e
theorem table_mem {ws:List (Nat×Nat)} (h:Fits ws) {x:Nat×Nat} (hx:x∈ws):tableOf ws x.1=x.2:=by
 unfold tableOf
 cases e:ws.find? fun y=>y.1==x.1 with
 | none=>
  have:=List.find?_eq_none.mp e x hx
  simp at this
 | some y=>
  have h1:=List.mem_of_find?_eq_some e
  have h2:y.1=x.1:=by simpa using List.find?_some e
  exact h.2 y h1 x hx h2
theorem table_none {ws:List (Nat×Nat)} {n:Nat} (h:∀x∈ws,x.1≠n):tableOf ws n=0:=by
 unfold tableOf
 rw [List.find?_eq_none.mpr fun x hx=>by simpa using h x hx]
 rfl
theorem table_append (ws us:List (Nat×Nat)) (n:Nat) (h:∀x∈ws,x.2≠0):tableOf (ws++us) n=if tableOf ws n≠0 then tableOf ws n else tableOf us n:=by
 unfold tableOf
 rw [List.find?_append]
 cases e:ws.find? fun y=>y.1==n with
 | none=>simp
 | some y=>
  have:=h y (List.mem_of_find?_eq_some e)
  simp [this]
theorem table_cases {ws:List (Nat×Nat)} {n:Nat} (h:∀x∈ws,x.2≠0):tableOf ws n≠0↔∃x∈ws,x.1=n:=by
 constructor
 ·intro q
  refine Classical.byContradiction fun z=>q (table_none fun x hx e=>z ⟨x,hx,e⟩)
 ·rintro ⟨x,hx,e⟩
  unfold tableOf
  cases f:ws.find? fun y=>y.1==n with
  | none=>
   have:=List.find?_eq_none.mp f x hx
   simp [e] at this
  | some y=>exact h y (List.mem_of_find?_eq_some f)
def okTake (ws:List (Nat×Nat)) (x:Nat×Nat):Prop:=x.1≤ARGS∧(tableOf ws x.1=0∨tableOf ws x.1=x.2)
theorem fits_snoc {ws:List (Nat×Nat)} {x:Nat×Nat} (h:Fits ws) (h0:∀y∈ws,y.2≠0):Fits (ws++[x])↔okTake ws x:=by
 constructor
 ·rintro ⟨h1,h2⟩
  refine ⟨h1 x (by simp),?_⟩
  by_cases e:tableOf ws x.1=0
  ·exact .inl e
  ·obtain ⟨y,hy,e1⟩:=(table_cases h0).mp e
   refine .inr ?_
   rw [←e1,table_mem h hy]
   exact h2 y (by simp [hy]) x (by simp) e1
 ·rintro ⟨h1,h2⟩
  have key:∀y∈ws,y.1=x.1→y.2=x.2:=fun y hy e=>by
   rcases h2 with q | q
   ·exact absurd q ((table_cases h0).mpr ⟨y,hy,e⟩)
   ·rw [←q,←e,table_mem h hy]
  refine ⟨fun y hy=>?_,fun y hy z hz e=>?_⟩
  ·rcases List.mem_append.mp hy with q | q
   ·exact h.1 y q
   ·rw [List.mem_singleton.mp q];exact h1
  ·rcases List.mem_append.mp hy with q | q<;>rcases List.mem_append.mp hz with r | r
   ·exact h.2 y q z r e
   ·rw [List.mem_singleton.mp r] at e ⊢;exact key y q e
   ·rw [List.mem_singleton.mp q] at e ⊢;exact (key z r e.symm).symm
   ·rw [List.mem_singleton.mp q,List.mem_singleton.mp r]
theorem fits_prefix {ws us:List (Nat×Nat)} (h:Fits (ws++us)):Fits ws:=
 ⟨fun x hx=>h.1 x (List.mem_append_left _ hx),fun x hx y hy=>h.2 x (List.mem_append_left _ hx) y (List.mem_append_left _ hy)⟩
theorem typeOf_ne (d:Dir):typeOf d≠0:=by
 unfold typeOf I32 STR I64 U32 U64
 cases d.conv<;>dsimp only<;>(try split)<;>decide
theorem wants_ne (u:Use):∀x∈u.wants,x.2≠0:=by
 unfold Use.wants
 intro x hx
 simp only [List.mem_append,List.mem_map,List.mem_singleton] at hx
 rcases hx with (⟨_,_,rfl⟩ | ⟨_,_,rfl⟩) | rfl
 ·show I32≠0;decide
 ·show I32≠0;decide
 ·exact typeOf_ne _
theorem wantsAll_ne (l:List Piece):∀x∈wants l,x.2≠0:=by
 unfold wants
 intro x hx
 obtain ⟨u,_,h⟩:=List.mem_flatMap.mp hx
 exact wants_ne u x h
theorem together_dir {l:List Piece} (d:Dir) (h:together l=true):together (l++[.dir d])=true↔
 ((∀d0,(dirsOf l).head?=some d0→d0.pos.isSome=d.pos.isSome)∧(uses l).length < DIRECTIVES∧Fits (wants l++(useOf (spelling l).length (nextK 1 l) d).wants)):=by
 rw [together_iff,dirsOf_dir,uses_dir,wants_dir,List.length_append]
 obtain ⟨h1,h2,h3⟩:=(together_iff l).mp h
 have no:∀o:Option Nat,o.isNone=!o.isSome:=fun o=>by cases o<;>rfl
 constructor
 ·rintro ⟨g1,g2,g3⟩
  refine ⟨fun d0 e=>?_,g2,g3⟩
  have m:d0∈dirsOf l:=List.mem_of_mem_head? e
  rcases g1 with g | g
  ·have a:=g d0 (by simp [m]);have b:=g d (by simp)
   rw [no,Bool.not_eq_true'] at a b
   rw [a,b]
  ·rw [g d0 (by simp [m]),g d (by simp)]
 ·rintro ⟨g1,g2,g3⟩
  refine ⟨?_,g2,g3⟩
  cases e:dirsOf l with
  | nil=>
   cases hp:d.pos.isSome with
   | true=>exact .inr fun x hx=>by simp at hx;rw [hx,hp]
   | false=>exact .inl fun x hx=>by simp at hx;rw [hx,no,hp];rfl
  | cons d0 r=>
   have q:=g1 d0 (by rw [e];rfl)
   rw [e] at h1
   rcases h1 with g | g
   ·refine .inl fun x hx=>?_
    rcases List.mem_append.mp hx with z | z
    ·exact g x z
    ·rw [List.mem_singleton.mp z,no,←q]
     have:=g d0 (by simp)
     rw [no] at this
     exact this
   ·refine .inr fun x hx=>?_
    rcases List.mem_append.mp hx with z | z
    ·exact g x z
    ·rw [List.mem_singleton.mp z,←q]
     exact g d0 (by simp)
theorem together_byte {l:List Piece} (c:UInt8):together (l++[.byte c])=together l:=by
 unfold together
 rw [dirsOf_byte,uses_byte,wants_of_uses (uses_byte l c)]
theorem together_percent {l:List Piece}:together (l++[.percent])=together l:=by
 unfold together
 rw [dirsOf_percent,uses_percent,wants_of_uses (uses_percent l)]
def maxOf (ws:List (Nat×Nat)):Nat:=ws.foldl (fun m x=>max m x.1) 0
theorem highest_eq (l:List Piece):highest l=maxOf (wants l):=rfl
theorem foldl_max:∀(ws:List (Nat×Nat)) (m:Nat),ws.foldl (fun m x=>max m x.1) m=max m (maxOf ws)
 | [],m=>by simp [maxOf]
 | x::ws,m=>by
  unfold maxOf
  rw [List.foldl_cons,List.foldl_cons,foldl_max ws,foldl_max ws (max 0 x.1)]
  omega
theorem maxOf_append (ws us:List (Nat×Nat)):maxOf (ws++us)=max (maxOf ws) (maxOf us):=by
 unfold maxOf
 rw [List.foldl_append,foldl_max us]
 rfl
theorem maxOf_le {ws:List (Nat×Nat)} {x:Nat×Nat} (h:x∈ws):x.1≤maxOf ws:=by
 induction ws with
 | nil=>cases h
 | cons y ws ih=>
  have e:maxOf (y::ws)=max y.1 (maxOf ws):=by
   have:=maxOf_append [y] ws
   rw [List.singleton_append] at this
   rw [this]
   congr 1
  rw [e]
  rcases List.mem_cons.mp h with rfl | h
  ·omega
  ·have:=ih h;omega
theorem maxOf_cons (y:Nat×Nat) (ws:List (Nat×Nat)):maxOf (y::ws)=max y.1 (maxOf ws):=by
 have:=maxOf_append [y] ws
 rw [List.singleton_append] at this
 rw [this]
 congr 1
theorem maxOf_nil:maxOf []=0:=rfl
theorem useOf_wants (a k:Nat) (d:Dir):(useOf a k d).wants=((sizeArg k d.width).toList.map fun n=>(n,I32))++((sizeArg (kW k d) d.prec).toList.map fun n=>(n,I32))++[(argOf k d,typeOf d)]:=rfl
theorem order_max {a k:Nat} {d:Dir} (hp:d.pos=none) (hs:starsOk d=true):maxOf (useOf a k d).wants=kP k d∧stepK k d=kP k d + 1:=by
 refine ⟨?_,by unfold stepK;rw [hp]⟩
 rw [starsOk_eq,hp] at hs
 rw [useOf_wants,maxOf_append,maxOf_append]
 unfold argOf kP kW at *
 rw [hp]
 cases hw:d.width<;>cases hq:d.prec<;>rw [hw,hq] at hs<;>simp [sOk] at hs<;>simp [sizeArg,maxOf_cons,maxOf_nil]<;>omega
theorem order_next:∀(n:Nat) (l:List Piece),l.length=n→(∀d∈dirsOf l,d.pos=none∧starsOk d=true)→nextK 1 l=highest l + 1
 | 0,l,hl,_=>by
  have:l=[]:=List.length_eq_zero_iff.mp hl
  subst this
  rfl
 | n + 1,l,hl,h=>by
  have hne:l≠[]:=fun e=>by rw [e] at hl;cases hl
  obtain ⟨m,x,rfl⟩:∃m x,l=m++[x]:=⟨l.dropLast,l.getLast hne,(List.dropLast_concat_getLast hne).symm⟩
  have hm:m.length=n:=by rw [List.length_append] at hl;simpa using hl
  have ih:=order_next n m hm fun d hd=>h d (by rw [dirsOf_append];exact List.mem_append_left _ hd)
  rw [nextK_append]
  cases x with
  | byte c=>
   show nextK 1 m=_
   rw [ih,highest_eq,highest_eq,wants_of_uses (uses_byte m c)]
  | percent=>
   show nextK 1 m=_
   rw [ih,highest_eq,highest_eq,wants_of_uses (uses_percent m)]
  | dir d=>
   obtain ⟨h1,h2⟩:=h d (by rw [dirsOf_dir];simp)
   obtain ⟨g1,g2⟩:=order_max (a:=(spelling m).length) (k:=nextK 1 m) h1 h2
   show stepK (nextK 1 m) d=_
   rw [highest_eq,wants_dir,maxOf_append,g1,g2,←highest_eq]
   have:nextK 1 m≤kP (nextK 1 m) d:=by unfold kP kW;split<;>split<;>omega
   omega
theorem piecesIn_cons (f:Nat) (l:List Piece) (c:UInt8) (b:Bytes) (p:Nat):piecesIn (f + 1) l (c::b) p=
 if c≠37 then piecesIn f (l++[.byte c]) b (p + 1) else
 if b.head?=some 37 then piecesIn f (l++[.percent]) b.tail (p + 2) else
 match (dirIn b).filter fun x=>rightDir x.1 with
 | none=>.error p
 | some x=>if together (l++[.dir x.1])=true then piecesIn f (l++[.dir x.1]) x.2 (p + (spell x.1).length) else .error p:=by
 have body:(match dirIn b with
  | none=>Except.error p
  | some (d,r)=>if (rightDir d&&together (l++[Piece.dir d]))=true then piecesIn f (l++[Piece.dir d]) r (p + 1 + (b.length - r.length)) else .error p)=
  match (dirIn b).filter fun x=>rightDir x.1 with
  | none=>.error p
  | some x=>if together (l++[Piece.dir x.1])=true then piecesIn f (l++[Piece.dir x.1]) x.2 (p + (spell x.1).length) else .error p:=by
  cases hd:dirIn b with
  | none=>rfl
  | some x=>
   obtain ⟨d,r⟩:=x
   obtain ⟨e1,e2⟩:=spell_len hd
   by_cases hr:rightDir d=true
   ·have e3:(some (d,r)).filter (fun x=>rightDir x.1)=some (d,r):=by
     show (if rightDir d=true then some (d,r) else none)=_
     rw [if_pos hr]
    rw [e3]
    dsimp only
    rw [hr,Bool.true_and,e1,←Nat.add_assoc]
   ·have e3:(some (d,r)).filter (fun x=>rightDir x.1)=none:=by
     show (if rightDir d=true then some (d,r) else none)=_
     rw [if_neg hr]
    rw [e3]
    dsimp only
    rw [Bool.eq_false_iff.mpr hr,Bool.false_and,if_neg (by simp)]
 rw [←body,piecesIn.eq_def]
 dsimp only
 by_cases hc:c≠37
 ·rw [if_pos hc,if_pos hc]
 ·rw [if_neg hc,if_neg hc]
  cases b with
  | nil=>rfl
  | cons x r=>
   by_cases hx:x=37
   ·subst hx;rfl
   ·rw [if_neg (by simp [hx])]
    split
    ·rename_i q;cases q;exact absurd rfl hx
    ·rfl
theorem piecesIn_fuel:∀(f g:Nat) (l:List Piece) (b:Bytes) (p:Nat),b.length≤f→b.length≤g→piecesIn f l b p=piecesIn g l b p
 | f,g,l,[],p,_,_=>by
  cases f<;>cases g<;>rfl
 | 0,_,_,_::_,_,h,_=>by simp at h
 | _ + 1,0,_,_::_,_,_,h=>by simp at h
 | f + 1,g + 1,l,c::b,p,hf,hg=>by
  have hf':b.length≤f:=by simpa using hf
  have hg':b.length≤g:=by simpa using hg
  rw [piecesIn_cons,piecesIn_cons]
  split
  ·exact piecesIn_fuel f g _ _ _ hf' hg'
  ·split
   ·exact piecesIn_fuel f g _ _ _ (by rw [List.length_tail];omega) (by rw [List.length_tail];omega)
   ·cases e:(dirIn b).filter fun x=>rightDir x.1 with
    | none=>rfl
    | some x=>
     dsimp only
     split
     ·have hd:dirIn b=some (x.1,x.2):=by
       cases hd:dirIn b with
       | none=>rw [hd] at e;cases e
       | some y=>
        rw [hd] at e
        have e':(if rightDir y.1=true then some y else none)=some x:=e
        split at e'
        ·exact e'
        ·cases e'
      have:=(spell_len hd).2
      exact piecesIn_fuel f g _ _ _ (by omega) (by omega)
     ·rfl
def rd (l:List Piece) (b:Bytes) (p:Nat):Except Nat (List Piece):=piecesIn b.length l b p
theorem formatIn_rd (b:Bytes):formatIn b=rd [] b 0:=rfl
theorem rd_nil (l:List Piece) (p:Nat):rd l [] p=.ok l:=rfl
theorem rd_byte {l:List Piece} {c:UInt8} {b:Bytes} {p:Nat} (h:c≠37):rd l (c::b) p=rd (l++[.byte c]) b (p + 1):=by
 unfold rd
 rw [List.length_cons,piecesIn_cons,if_pos h]
theorem rd_percent {l:List Piece} {b:Bytes} {p:Nat}:rd l (37::37::b) p=rd (l++[.percent]) b (p + 2):=by
 unfold rd
 rw [List.length_cons,piecesIn_cons,if_neg (by simp),if_pos (show (37::b:Bytes).head?=some 37 from rfl)]
 exact piecesIn_fuel _ _ _ _ _ (by simp) (by simp)
theorem rd_wrong {l:List Piece} {b:Bytes} {p:Nat} (h:b.head?≠some 37) (hd:((scanDir b).filter fun x=>rightFlags x.1)=none):rd l (37::b) p=.error p:=by
 unfold rd
 rw [List.length_cons,piecesIn_cons,if_neg (by simp),if_neg h,←scan_right,hd]
theorem rd_dir {l:List Piece} {b:Bytes} {p:Nat} {d:Dir} {r:Bytes} (h:b.head?≠some 37) (hd:scanDir b=some (d,r)) (hr:rightFlags d=true):
 rd l (37::b) p=if together (l++[.dir d])=true then rd (l++[.dir d]) r (p + (spell d).length) else .error p:=by
 unfold rd
 have e:((scanDir b).filter fun x=>rightFlags x.1)=some (d,r):=by
  rw [hd]
  show (if rightFlags d=true then some (d,r) else none)=_
  rw [if_pos hr]
 rw [List.length_cons,piecesIn_cons,if_neg (by simp),if_neg h,←scan_right,e]
 dsimp only
 have hq:=(spell_len (scanDir_some hd).1).2
 split
 ·exact piecesIn_fuel _ _ _ _ _ hq (Nat.le_refl _)
 ·rfl
theorem scan_spell {b:Bytes} {d:Dir} {r:Bytes} (h:scanDir b=some (d,r)):37::b=spell d++r:=dirIn_spell (scanDir_some h).1
end Fm
namespace Fm
open Fc
def toI (bs:Bytes):List Int:=bs.map fun c=>(c.toNat:Int)
def natI (l:List Nat):List Int:=l.map fun (n:Nat)=>(n:Int)
def bsOf (row:List Int):Bytes:=row.map fun z=>UInt8.ofNat z.toNat
def natsOf (row:List Int):List Nat:=row.map Int.toNat
theorem row_bytes {row:List Int} (h:row.all (fun z=>FormatNeutral.natural z 8)=true):FormatNeutral.bytes row=some (bsOf row)∧toI (bsOf row)=row:=by
 rw [List.all_eq_true] at h
 have hb:∀z∈row,0≤z∧z < 256:=fun z hz=>by
  have:=h z hz
  unfold FormatNeutral.natural at this
  simpa using this
 constructor
 ·unfold FormatNeutral.bytes
  rw [if_pos]
  ·rfl
  ·unfold NeutralIO.bytes
   rw [List.all_eq_true]
   intro z hz
   have:=hb z hz
   simp only [Bool.and_eq_true,decide_eq_true_iff]
   omega
 ·unfold toI bsOf
  rw [List.map_map]
  conv=>rhs;rw [←List.map_id row]
  refine List.map_congr_left fun z hz=>?_
  have:=hb z hz
  show ((UInt8.ofNat z.toNat).toNat:Int)=z
  rw [UInt8.toNat_ofNat_of_lt' (by show z.toNat < 256;omega)]
  omega
theorem row_nats {row:List Int} (h:row.all (fun z=>FormatNeutral.natural z 64)=true):row.mapM FormatNeutral.nat=some (natsOf row)∧natI (natsOf row)=row∧∀n∈natsOf row,n < 2 ^ 64:=by
 rw [List.all_eq_true] at h
 have hb:∀z∈row,0≤z∧z < 2 ^ 64:=fun z hz=>by
  have:=h z hz
  unfold FormatNeutral.natural at this
  simpa using this
 refine ⟨?_,?_,?_⟩
 ·clear h
  induction row with
  | nil=>rfl
  | cons z t ih=>
   have h1:=hb z (by simp)
   have e1:FormatNeutral.nat z=some z.toNat:=by unfold FormatNeutral.nat;rw [if_neg (by omega)]
   rw [List.mapM_cons,e1,ih fun y hy=>hb y (by simp [hy])]
   rfl
 ·unfold natI natsOf
  rw [List.map_map]
  conv=>rhs;rw [←List.map_id row]
  refine List.map_congr_left fun z hz=>?_
  have:=hb z hz
  show ((z.toNat:Nat):Int)=z
  omega
 ·intro n hn
  obtain ⟨z,hz,rfl⟩:=List.mem_map.mp hn
  have:=hb z hz
  omega
inductive Enc:FcCalls.Call→List Int→Prop
 | parse (bs:Bytes):bs.length≤300→Enc (.parse bs) (1::(bs.length:Int)::toI bs)
 | write:Enc .write [2]
 | count:Enc .count [3]
 | args:Enc .args [4]
 | type (n:Nat):n < 2 ^ 64→Enc (.type n) [5,(n:Int)]
 | directive (n:Nat):n < 2 ^ 64→Enc (.directive n) [6,(n:Int)]
 | check (ts:List Nat):ts.length≤100→(∀n∈ts,n < 2 ^ 64)→Enc (.check ts) (7::(ts.length:Int)::natI ts)
 | same (bs:Bytes):bs.length≤300→Enc (.same bs) (8::(bs.length:Int)::toI bs)
 | render (vs:List Nat) (pool:Bytes):vs.length≤100→pool.length≤300→(∀n∈vs,n < 2 ^ 64)→Enc (.render vs pool) (9::(vs.length:Int)::(natI vs++(pool.length:Int)::toI pool))
def Due (s:FcCalls.State) (r out:List Int) (k:Nat):Prop:=∃f cs,r.length≤f∧PyFlat.calls PyYqfcha.shape f r=some cs∧(∀c∈cs.map PyYqfcha.whole,FormatNeutral.asked1 c=true∧FormatNeutral.fits c=true)∧cs.length≤k∧
 out=PyFlat.told (PyFlat.played FormatNeutral.step s (cs.map PyYqfcha.whole))
theorem due_start {l:List Int} (h:PyYqfcha.answers_asked l=true):l≠[]∧Due FcCalls.start l (PyYqfcha.answers l) 16:=by
 unfold PyYqfcha.answers_asked PyYqfcha.calls at h
 unfold PyYqfcha.answers PyYqfcha.calls
 cases e:PyFlat.calls PyYqfcha.shape l.length l with
 | none=>rw [e] at h;cases h
 | some cs=>
  rw [e] at h
  dsimp only at h
  rw [Bool.and_eq_true] at h
  obtain ⟨h1,h2⟩:=h
  unfold FormatNeutral.asked at h2
  simp only [Bool.and_eq_true,List.all_eq_true,Bool.not_eq_true',decide_eq_true_iff,List.length_map] at h2
  obtain ⟨h3,h4,h5,h6⟩:=h2
  refine ⟨?_,l.length,cs,Nat.le_refl _,e,fun c hc=>⟨h4 c hc,h5 c hc⟩,h6,rfl⟩
  rintro rfl
  cases e
  cases h3
theorem due_nil {s:FcCalls.State} {out:List Int} {k:Nat} (h:Due s [] out k):out=[]:=by
 obtain ⟨f,cs,_,e,_,_,rfl⟩:=h
 have:cs=[]:=by
  cases f<;>exact (Option.some.inj e).symm
 subst this
 rfl
theorem row_some {r x t:List Int} (h:PyFlat.row r=some (x,t)):r=(x.length:Int)::(x++t):=by
 cases r with
 | nil=>cases h
 | cons n r=>
  rw [PyFlat.row] at h
  split at h
  ·rename_i hn
   cases h
   have:(r.take n.toNat).length=n.toNat:=by rw [List.length_take];omega
   rw [this,List.take_append_drop]
   congr 1
   omega
  ·cases h
theorem rows_zero {r:List Int} {xs:List (List Int)} {t:List Int} (h:PyFlat.rows 0 r=some (xs,t)):xs=[]∧r=t:=by
 rw [PyFlat.rows] at h
 cases h
 exact ⟨rfl,rfl⟩
theorem rows_succ {k:Nat} {r:List Int} {xs:List (List Int)} {t:List Int} (h:PyFlat.rows (k + 1) r=some (xs,t)):∃x xs' s,xs=x::xs'∧r=(x.length:Int)::(x++s)∧PyFlat.rows k s=some (xs',t):=by
 rw [PyFlat.rows] at h
 cases e:PyFlat.row r with
 | none=>rw [e] at h;cases h
 | some y=>
  rw [e] at h
  dsimp only at h
  cases e2:PyFlat.rows k y.2 with
  | none=>rw [e2] at h;cases h
  | some z=>
   rw [e2] at h
   cases h
   exact ⟨y.1,z.1,y.2,rfl,row_some e,e2⟩
theorem call_some {p:Int} {r:List Int} {c:List (List Int)} {t:List Int} (h:PyFlat.call PyYqfcha.shape (p::r)=some (c,t)):
 ((p=1∨p=7∨p=8)∧∃x,c=[[p],x]∧r=(x.length:Int)::(x++t))∨((p=2∨p=3∨p=4)∧c=[[p]]∧r=t)∨((p=5∨p=6)∧∃n,c=[[p,n]]∧r=n::t)∨
 (p=9∧∃x y,c=[[p],x,y]∧r=(x.length:Int)::(x++((y.length:Int)::(y++t)))):=by
 rw [PyFlat.call] at h
 have sh:∀n k,PyYqfcha.shape p=some (n,k)→((p=1∨p=7∨p=8)∧n=0∧k=1)∨((p=2∨p=3∨p=4)∧n=0∧k=0)∨((p=5∨p=6)∧n=1∧k=0)∨(p=9∧n=0∧k=2):=by
  intro n k hs
  unfold PyYqfcha.shape at hs
  repeat' split at hs
  all_goals first | (cases hs;omega) | cases hs
 cases e:PyYqfcha.shape p with
 | none=>rw [e] at h;cases h
 | some nk=>
  obtain ⟨n,k⟩:=nk
  rw [e] at h
  dsimp only at h
  split at h
  ·cases h
  ·rename_i hlen
   cases e2:PyFlat.rows k (r.drop n) with
   | none=>rw [e2] at h;cases h
   | some z=>
    obtain ⟨xs,t'⟩:=z
    rw [e2] at h
    have h':(p::r.take n)::xs=c∧t'=t:=by
     have:=Option.some.inj h
     exact ⟨congrArg Prod.fst this,congrArg Prod.snd this⟩
    obtain ⟨rfl,rfl⟩:=h'
    rcases sh n k e with ⟨hp,rfl,rfl⟩ | ⟨hp,rfl,rfl⟩ | ⟨hp,rfl,rfl⟩ | ⟨hp,rfl,rfl⟩
    ·obtain ⟨x,xs',s,rfl,hr,h3⟩:=rows_succ e2
     obtain ⟨rfl,rfl⟩:=rows_zero h3
     exact .inl ⟨hp,x,rfl,hr⟩
    ·obtain ⟨rfl,hr⟩:=rows_zero e2
     exact .inr (.inl ⟨hp,rfl,hr⟩)
    ·obtain ⟨rfl,hr⟩:=rows_zero e2
     cases r with
     | nil=>exact absurd (by simp) hlen
     | cons m r=>exact .inr (.inr (.inl ⟨hp,m,rfl,by rw [←hr];rfl⟩))
    ·obtain ⟨x,xs',s,rfl,hr,h3⟩:=rows_succ e2
     obtain ⟨y,xs'',s',rfl,hr',h4⟩:=rows_succ h3
     obtain ⟨rfl,rfl⟩:=rows_zero h4
     exact .inr (.inr (.inr ⟨hp,x,y,rfl,by rw [hr'] at hr;exact hr⟩))
theorem played_cons (s:FcCalls.State) (c:List (List Int)) (cs:List (List (List Int))) {x:FcCalls.Call} (h:FormatNeutral.callOf c=some x):
 PyFlat.told (PyFlat.played FormatNeutral.step s (c::cs))=((FormatNeutral.told (FcCalls.step s x).2).length:Int)::(FormatNeutral.told (FcCalls.step s x).2++PyFlat.told (PyFlat.played FormatNeutral.step (FcCalls.step s x).1 cs)):=by
 have e:FormatNeutral.step s c=((FcCalls.step s x).1,FormatNeutral.told (FcCalls.step s x).2):=by
  unfold FormatNeutral.step
  rw [h]
 rw [PyFlat.played,e]
 unfold PyFlat.told
 rw [List.flatMap_cons]
 rfl
theorem due_cons {s:FcCalls.State} {p:Int} {r out:List Int} {k:Nat} (h:Due s (p::r) out k):∃x e t out' k',Enc x e∧p::r=e++t∧k=k' + 1∧Due (FcCalls.step s x).1 t out' k'∧
 out=((FormatNeutral.told (FcCalls.step s x).2).length:Int)::(FormatNeutral.told (FcCalls.step s x).2++out'):=by
 obtain ⟨f,cs,hf,e,hc,hk,rfl⟩:=h
 cases f with
 | zero=>simp at hf
 | succ f=>
  rw [PyFlat.calls] at e
  cases e1:PyFlat.call PyYqfcha.shape (p::r) with
  | none=>rw [e1] at e;cases e
  | some ct=>
   obtain ⟨c,t⟩:=ct
   rw [e1] at e
   dsimp only at e
   cases e2:PyFlat.calls PyYqfcha.shape f t with
   | none=>rw [e2] at e;cases e
   | some cs'=>
    rw [e2] at e
    cases e
    obtain ⟨k',rfl⟩:∃k',k=k' + 1:=⟨k - 1,by rw [List.length_cons] at hk;omega⟩
    have ha:=hc (PyYqfcha.whole c) (by simp)
    have due':∀x,t.length≤f→Due (FcCalls.step s x).1 t (PyFlat.told (PyFlat.played FormatNeutral.step (FcCalls.step s x).1 (cs'.map PyYqfcha.whole))) k':=fun x ht=>
     ⟨f,cs',ht,e2,fun d hd=>hc d (by rw [List.map_cons];exact List.mem_cons_of_mem _ hd),by rw [List.length_cons] at hk;omega,rfl⟩
    have fin:∀{x e'},FormatNeutral.callOf (PyYqfcha.whole c)=some x→Enc x e'→p::r=e'++t→∃x e t_1 out' k'_1,Enc x e∧p::r=e++t_1∧k' + 1=k'_1 + 1∧Due (FcCalls.step s x).1 t_1 out' k'_1∧
     PyFlat.told (PyFlat.played FormatNeutral.step s ((c::cs').map PyYqfcha.whole))=((FormatNeutral.told (FcCalls.step s x).2).length:Int)::(FormatNeutral.told (FcCalls.step s x).2++out'):=fun {x e'} h1 h2 h3=>by
     refine ⟨x,e',t,_,k',h2,h3,rfl,due' x ?_,by rw [List.map_cons];exact played_cons s _ _ h1⟩
     have:=congrArg List.length h3
     rw [List.length_append] at this
     have h4:0 < e'.length:=by cases h2<;>simp
     omega
    have mod:∀x,FormatNeutral.callOf (PyYqfcha.whole c)=some x→FormatNeutral.moderate x=true:=fun x hx=>by
     have:=ha.2
     unfold FormatNeutral.fits at this
     rw [hx] at this
     simpa using this
    rcases call_some e1 with ⟨hp,x,rfl,hr⟩ | ⟨hp,rfl,hr⟩ | ⟨hp,n,rfl,hr⟩ | ⟨rfl,x,y,rfl,hr⟩
    ·rcases hp with rfl | rfl | rfl
     ·obtain ⟨b1,b2⟩:=row_bytes (row:=x) ha.1
      have hx:FormatNeutral.callOf (PyYqfcha.whole [[1],x])=some (.parse (bsOf x)):=by
       show (FormatNeutral.bytes x).bind _=_
       rw [b1];rfl
      have hm:=mod _ hx
      have hl:x.length=(bsOf x).length:=by unfold bsOf;rw [List.length_map]
      refine fin hx (.parse (bsOf x) (of_decide_eq_true hm)) ?_
      rw [b2,hr,hl];rfl
     ·obtain ⟨b1,b2,b3⟩:=row_nats (row:=x) ha.1
      have hx:FormatNeutral.callOf (PyYqfcha.whole [[7],x])=some (.check (natsOf x)):=by
       show (x.mapM FormatNeutral.nat).bind _=_
       rw [b1];rfl
      have hm:=mod _ hx
      have hl:x.length=(natsOf x).length:=by unfold natsOf;rw [List.length_map]
      refine fin hx (.check (natsOf x) (of_decide_eq_true hm) b3) ?_
      rw [b2,hr,hl];rfl
     ·obtain ⟨b1,b2⟩:=row_bytes (row:=x) ha.1
      have hx:FormatNeutral.callOf (PyYqfcha.whole [[8],x])=some (.same (bsOf x)):=by
       show (FormatNeutral.bytes x).bind _=_
       rw [b1];rfl
      have hm:=mod _ hx
      have hl:x.length=(bsOf x).length:=by unfold bsOf;rw [List.length_map]
      refine fin hx (.same (bsOf x) (of_decide_eq_true hm)) ?_
      rw [b2,hr,hl];rfl
    ·rcases hp with rfl | rfl | rfl
     ·exact fin (x:=.write) rfl .write (by rw [hr];rfl)
     ·exact fin (x:=.count) rfl .count (by rw [hr];rfl)
     ·exact fin (x:=.args) rfl .args (by rw [hr];rfl)
    ·have hn:FormatNeutral.natural n 64=true:=by
      rcases hp with rfl | rfl<;>exact ha.1
     unfold FormatNeutral.natural at hn
     simp only [Bool.and_eq_true,decide_eq_true_iff] at hn
     have e3:FormatNeutral.nat n=some n.toNat:=by unfold FormatNeutral.nat;rw [if_neg (by omega)]
     have e4:((n.toNat:Nat):Int)=n:=by omega
     rcases hp with rfl | rfl
     ·have hx:FormatNeutral.callOf (PyYqfcha.whole [[5,n]])=some (.type n.toNat):=by
       show (FormatNeutral.nat n).bind _=_
       rw [e3];rfl
      exact fin hx (.type n.toNat (by omega)) (by rw [hr,e4];rfl)
     ·have hx:FormatNeutral.callOf (PyYqfcha.whole [[6,n]])=some (.directive n.toNat):=by
       show (FormatNeutral.nat n).bind _=_
       rw [e3];rfl
      exact fin hx (.directive n.toNat (by omega)) (by rw [hr,e4];rfl)
    ·have h1:(x.all (fun z=>FormatNeutral.natural z 64)&&y.all (fun z=>FormatNeutral.natural z 8))=true:=ha.1
     rw [Bool.and_eq_true] at h1
     obtain ⟨b1,b2,b3⟩:=row_nats h1.1
     obtain ⟨c1,c2⟩:=row_bytes h1.2
     have hx:FormatNeutral.callOf (PyYqfcha.whole [[9],x,y])=some (.render (natsOf x) (bsOf y)):=by
      show (x.mapM FormatNeutral.nat).bind _=_
      rw [b1]
      show (FormatNeutral.bytes y).bind _=_
      rw [c1];rfl
     have hm:=mod _ hx
     have hm:(decide ((natsOf x).length≤100)&&decide ((bsOf y).length≤300))=true:=hm
     rw [Bool.and_eq_true,decide_eq_true_iff,decide_eq_true_iff] at hm
     have hl:x.length=(natsOf x).length:=by unfold natsOf;rw [List.length_map]
     have hl2:y.length=(bsOf y).length:=by unfold bsOf;rw [List.length_map]
     refine fin hx (.render (natsOf x) (bsOf y) hm.1 hm.2 b3) ?_
     rw [b2,c2,hr,←hl,←hl2]
     simp
end Fm
namespace Fm
open PySem PySem.Spec PyProof.Rows L2
def But (a:Addr) (H H':Hp):Prop:=∀b o,H b=some o→b≠a→H' b=some o
theorem But.upd {H:Hp} {a:Addr} {o:HO}:But a H (upd H a o):=fun b o' hb hn=>by rw [upd_ne hn];exact hb
theorem But.trans {a:Addr} {H H1 H2:Hp} (x:But a H H1) (y:But a H1 H2):But a H H2:=fun b o hb hn=>y b o (x b o hb hn) hn
theorem But.refl {a:Addr} {H:Hp}:But a H H:=fun _ _ h _=>h
theorem Same.but {a:Addr} {H H1:Hp} (x:Same H H1):But a H H1:=fun b o hb _=>x b o hb
def vb (c:UInt8):V:=.int c.toNat
def scF (rl:Addr) (p k:Int):List (Str×V):=[("row",.ref rl),("place",.int p),("at",.int k)]
def ScAt (C:Addr) (H:Hp) (a rl:Addr) (p k:Nat):Prop:=∃dx,H a=some (.ins C dx (scF rl p k))
def pk (bs:Fc.Bytes) (k:Nat):Nat:=match bs[k]? with
 | some c=>c.toNat
 | none=>256
structure TSc (K:PySem.W.Frag) (mg:Str→Option Value) (C:Addr):Prop where
 cl:Cls K C
 nRow:NoAttr K C "row"
 nPlace:NoAttr K C "place"
 nAt:NoAttr K C "at"
 len:mg "len"=none
 END:GI mg "END" 256
 ZERO:GI mg "ZERO" 48
 NINE:GI mg "NINE" 57
def spScInit (C:Addr):Sp:=fun vs H Q _=>∃(x dx rl:Addr) (p:Nat),vs=[.ref x,.ref rl,.int p]∧H x=some (.ins C dx [])∧∀H',ScAt C H' x rl p (p + 1)→But x H H'→Q .non H'
def spPeek (K:PySem.W.Frag) (C:Addr):Sp:=fun vs H Q _=>∃(a rl:Addr) (p k:Nat) (bs:Fc.Bytes),vs=[.ref a]∧ScAt C H a rl p k∧SqL K H rl (bs.map vb)∧Q (.int (pk bs k)) H
def spTake (K:PySem.W.Frag) (C:Addr):Sp:=fun vs H Q _=>∃(a rl:Addr) (p k:Nat) (bs:Fc.Bytes),vs=[.ref a]∧ScAt C H a rl p k∧SqL K H rl (bs.map vb)∧∀H',ScAt C H' a rl p (k + 1)→But a H H'→Q (.int (pk bs k)) H'
def dig (i:Int):Bool:=decide (48≤i)&&decide (i≤57)
def spDigit:Sp:=fun vs H Q _=>∃i:Int,vs=[.int i]∧Q (.bl (dig i)) H
section
variable {P:Program} {w:World} {K:PySem.W.Frag} {mg:Str→Option Value} {base:Heap}
theorem ok_Scanner_init {f C:Addr} {fd:FuncData} (F:Fun K "__init__" "Scanner.__init__" s_Scanner_init f fd) (T:TSc K mg C):FnOk P w K mg base CX0 1 f fd ["self","row","place"] (spScInit C):=by
 refine F.ok sc_Scanner_init (fun vs H Q E h=>?_) (fun cdv A outer s H vs Q E hr h=>?_)
 ·obtain ⟨x,dx,rl,p,rfl,_⟩:=h
  rfl
 ·obtain ⟨x,dx,rl,p,rfl,hx,k⟩:=h
  refine ⟨_,pss_cons (ps_fld (pv 0) (pv 1) rfl) (pss_cons (ps_fld (pv 0) (pv 2) rfl) (pss_one (ps_fld (pv 0) (pe_op op_add (pv 2) pe_int) rfl))),?_⟩
  refine ⟨_,rfl,_,rfl,x,C,dx,_,rfl,hx,T.cl,T.nRow,(by show 0 < 1000;decide),?_⟩
  refine ⟨_,rfl,_,rfl,x,C,dx,_,rfl,upd_same,T.cl,T.nPlace,(by show 1 < 1000;decide),?_⟩
  refine ⟨_,rfl,_,_,rfl,rfl,_,rfl,x,C,dx,_,rfl,upd_same,T.cl,T.nAt,(by show 2 < 1000;decide),?_⟩
  refine k _ ⟨dx,upd_same⟩ fun b o hb hn=>?_
  rw [upd_ne hn,upd_ne hn,upd_ne hn]
  exact hb
theorem ok_Scanner_peek {f C:Addr} {fd:FuncData} (F:Fun K "peek" "Scanner.peek" s_Scanner_peek f fd) (T:TSc K mg C):FnOk P w K mg base CX0 1 f fd ["self"] (spPeek K C):=by
 refine F.ok sc_Scanner_peek (fun vs H Q E h=>?_) (fun cdv A outer s H vs Q E hr h=>?_)
 ·obtain ⟨a,rl,p,k,bs,rfl,_⟩:=h
  rfl
 ·obtain ⟨a,rl,p,k,bs,rfl,⟨dx,ha⟩,hs,q⟩:=h
  refine ⟨_,pss_one (ps_ret (pe_ifExp (pt_cmpR op_lt (pe_fld (pv 0) rfl) (pe_callB call_len_seq (by rfl) T.len PySem.boot_len (pa_cons (pe_fld (pv 0) rfl) pa_nil)) (nomark _))
   (pe_ix ix_list (pe_fld (pv 0) rfl) (pe_fld (pv 0) rfl) (fun _ _=>rfl)) (pe_gi T.END))),?_⟩
  refine ⟨_,rfl,a,C,dx,_,_,rfl,ha,T.cl,T.nAt,rfl,_,rfl,a,C,dx,_,_,rfl,ha,T.cl,T.nRow,rfl,rl,_,rfl,.inl hs,_,_,rfl,rfl,_,rfl,?_⟩
  refine ite2 (fun h=>?_) fun h=>?_
  ·have hk:k < bs.length:=by
    have:=of_decide_eq_true h
    rw [List.length_map] at this
    omega
   obtain ⟨c,hc⟩:∃c,bs[k]?=some c:=⟨_,List.getElem?_eq_getElem hk⟩
   refine ⟨_,rfl,a,C,dx,_,_,rfl,ha,T.cl,T.nRow,rfl,_,rfl,a,C,dx,_,_,rfl,ha,T.cl,T.nAt,rfl,rl,_,_,_,rfl,rfl,hs,atI_nat (j:=k) (v:=vb c) (by rw [List.getElem?_map,hc];rfl),?_⟩
   have e:pk bs k=c.toNat:=by unfold pk;rw [hc]
   rw [e] at q
   exact q
  ·have hk:¬k < bs.length:=fun z=>h (decide_eq_true (by rw [List.length_map];omega))
   have e:pk bs k=256:=by unfold pk;rw [List.getElem?_eq_none (by omega)]
   rw [e] at q
   exact q
theorem ok_Scanner_take {f C:Addr} {fd:FuncData} (F:Fun K "take" "Scanner.take" s_Scanner_take f fd) (T:TSc K mg C) (cPeek:CalM P w K mg base CX0 C "peek" ["self"] 1 (spPeek K C)):FnOk P w K mg base CX0 2 f fd ["self"] (spTake K C):=by
 refine F.ok sc_Scanner_take (fun vs H Q E h=>?_) (fun cdv A outer s H vs Q E hr h=>?_)
 ·obtain ⟨a,rl,p,k,bs,rfl,_⟩:=h
  rfl
 ·obtain ⟨a,rl,p,k,bs,rfl,⟨dx,ha⟩,hs,q⟩:=h
  refine ⟨_,pss_cons (ps_set (i:=1) sc_Scanner_take.nd rfl (Or.inl rfl) (pe_calm0 (pv 0) cPeek hr pass0)) (pss_cons (ps_fldaug (pv 0) pe_int in_add) (pss_one (ps_ret (pv 1)))),?_⟩
  refine ⟨_,rfl,a,dx,_,rfl,ha,rfl,a,rl,p,k,bs,rfl,⟨dx,ha⟩,hs,?_⟩
  refine ⟨_,rfl,a,C,dx,_,_,rfl,ha,T.cl,T.nAt,rfl,_,_,rfl,rfl,dx,_,ha,(by show 3 < 1000;decide),?_⟩
  exact ⟨_,rfl,q _ ⟨dx,upd_same⟩ But.upd⟩
theorem ok_is_digit {f C:Addr} {fd:FuncData} (F:Fun K "is_digit" "is_digit" s_is_digit f fd) (T:TSc K mg C):FnOk P w K mg base CX0 1 f fd ["sign"] spDigit:=by
 refine F.ok sc_is_digit (fun vs H Q E h=>?_) (fun cdv A outer s H vs Q E hr h=>?_)
 ·obtain ⟨i,rfl,_⟩:=h
  rfl
 ·obtain ⟨i,rfl,q⟩:=h
  refine ⟨_,pss_one (ps_ret (pe_chain op_le op_le (pe_gi T.ZERO) (pv 0) (pe_gi T.NINE))),?_⟩
  refine ⟨_,rfl,_,_,rfl,rfl,_,rfl,?_⟩
  unfold dig at q
  refine ite2 (fun h=>?_) fun h=>?_
  ·rw [h,Bool.true_and] at q
   exact ⟨_,_,rfl,rfl,q⟩
  ·rw [Bool.eq_false_iff.mpr h,Bool.false_and] at q
   exact q
end
end Fm
namespace Fm
open PySem PySem.Spec PyProof.Rows L2
open Fc (Bytes digitsIn)
def RowAt (H:Hp) (rl:Addr) (bs:Bytes):Prop:=H rl=some (.lst (bs.map vb))
def ScOn (C:Addr) (H:Hp) (a rl:Addr) (p:Nat) (bs b:Bytes):Prop:=∃k,ScAt C H a rl p k∧k≤bs.length∧bs.drop k=b
theorem ScAt.ne {C:Addr} {H:Hp} {a rl:Addr} {p k:Nat} {bs:Bytes} (h:ScAt C H a rl p k) (r:RowAt H rl bs):rl≠a:=by
 obtain ⟨dx,h⟩:=h
 exact ne_of r h (by intro z;cases z)
theorem RowAt.but {C:Addr} {H H':Hp} {a rl:Addr} {p k:Nat} {bs:Bytes} (r:RowAt H rl bs) (h:ScAt C H a rl p k) (b:But a H H'):RowAt H' rl bs:=b _ _ r (h.ne r)
def hd (b:Bytes):Nat:=match b with
 | c::_=>c.toNat
 | []=>256
theorem pk_drop (bs:Bytes) (k:Nat):pk bs k=hd (bs.drop k):=by
 unfold pk hd
 cases h:bs[k]? with
 | some c=>
  have hk:=(List.getElem?_eq_some_iff.mp h).1
  rw [List.drop_eq_getElem_cons hk]
  have:=(List.getElem?_eq_some_iff.mp h).2
  rw [this]
 | none=>
  have hk:=List.getElem?_eq_none_iff.mp h
  rw [List.drop_eq_nil_of_le hk]
theorem dig_hd (b:Bytes):dig (hd b)=headDigit b:=by
 cases b with
 | nil=>rfl
 | cons c r=>
  show dig (c.toNat:Int)=Fc.isDigit c
  unfold dig
  rw [Bool.eq_iff_iff,isDigit_iff,Bool.and_eq_true,decide_eq_true_iff,decide_eq_true_iff]
  omega
def Wrong (wf:Addr) (p:Nat) (a:Addr) (H:Hp) (E:XK):Prop:=∀(dx:Addr) (H':Hp),H' dx=some (.xd [("place",.int p)])→But a H H'→E (.ref wf) (some dx) H'
def spScanNum (C wf:Addr):Sp:=fun vs H Q E=>∃(a rl:Addr) (p k lo hi:Nat) (bs:Bytes),vs=[.ref a,.int lo,.int hi]∧ScAt C H a rl p k∧k≤bs.length∧RowAt H rl bs∧
 (∀n r,scanNum lo hi (bs.drop k)=some (n,r)→∀H',ScOn C H' a rl p bs r→But a H H'→Q (.int n) H')∧(scanNum lo hi (bs.drop k)=none→Wrong wf p a H E)
theorem drop_split {bs ds r:Bytes} {k:Nat} (h:bs.drop k=ds++r):bs.drop (k + ds.length)=r:=by
 rw [←List.drop_drop,h,List.drop_left]
theorem len_split {bs ds r:Bytes} {k:Nat} (hk:k≤bs.length) (h:bs.drop k=ds++r):k + ds.length≤bs.length:=by
 have:=congrArg List.length h
 rw [List.length_drop,List.length_append] at this
 omega
section
variable {P:Program} {w:World} {K:PySem.W.Frag} {mg:Str→Option Value} {base:Heap}
theorem ok_scan_number {f C wf:Addr} {fd:FuncData} (F:Fun K "scan_number" "scan_number" s_scan_number f fd) (T:TSc K mg C) (cPeek:CalM P w K mg base CX0 C "peek" ["self"] 1 (spPeek K C)) (cTake:CalM P w K mg base CX0 C "take" ["self"] 2 (spTake K C))
 (cDig:Cal P w K mg base CX0 "is_digit" ["sign"] 1 spDigit) (cWF:CalX P w K mg base wf "WrongFormat" 1 "place"):FnOk P w K mg base (CXe P w) 4 f fd ["scanner","least","most"] (spScanNum C wf):=by
 refine F.okx sc_scan_number (fun vs H Q E h=>?_) (fun cdv A outer s H vs Q E hr h=>?_)
 ·obtain ⟨a,rl,p,k,lo,hi,bs,rfl,_⟩:=h
  rfl
 ·obtain ⟨a,rl,p,k,lo,hi,bs,rfl,⟨dx,ha⟩,hk,hrow,qo,qe⟩:=h
  have hr1:Room 1 _:=hr.mono (by decide)
  have hr2:Room 2 _:=hr.mono (by decide)
  refine ⟨_,pss_cons (ps_set (i:=3) sc_scan_number.nd rfl (Or.inl rfl) (pe_fld (pv 0) rfl)) (pss_cons (ps_set (i:=4) sc_scan_number.nd rfl (Or.inl rfl) pe_int)
   (pss_cons (ps_while PassesOwn.leaving (pt_val (pe_cal cDig hr1 pass0 (pa_cons (pe_calm0 (pv 0) cPeek hr1 pass0) pa_nil)))
    (pss_one (ps_set (i:=4) sc_scan_number.nd rfl (Or.inl rfl) (pe_op op_sub (pe_op op_add (pe_op op_mul (pv 4) pe_int) (pe_calm0 (pv 0) cTake hr2 pass0)) (pe_gi T.ZERO)))))
   (pss_cons (ps_set (i:=5) sc_scan_number.nd rfl (Or.inl rfl) (pe_op op_sub (pe_fld (pv 0) rfl) (pv 3)))
   (pss_cons (ps_set (i:=6) sc_scan_number.nd rfl (Or.inl rfl) (pe_and (pe_cmpR op_gt (pv 5) pe_int (nomark _)) (pe_one (pe_cmpR op_eq (pe_ix ix_list (pe_fld (pv 0) rfl) (pv 3) (fun _ _=>rfl)) (pe_gi T.ZERO) (nomark _))))).mono
   (pss_cons (ps_if (pw_or (pt_cmpR op_eq (pv 5) pe_int (nomark _)) (pw_or (pt_val (pv 6)) (pw_or1 (pt_not (pt_chain op_le op_le (pv 1) (pv 4) (pv 2)))))).pt
    (pss_one (ps_raise1 cWF hr2 (pe_fld (pv 0) rfl) leave_ok)) pss_nil)
   (pss_one (ps_ret (pv 4)))))))),?_⟩
  refine ⟨_,rfl,a,C,dx,_,_,rfl,ha,T.cl,T.nAt,rfl,?_⟩
  refine ⟨fun m σ H'=>∃ds r dx',bs.drop k=ds++r∧(∀c∈ds,Fc.isDigit c=true)∧H' a=some (.ins C dx' (scF rl p ((k + ds.length:Nat))))∧But a H H'∧
   σ=[some (.ref a),some (.int lo),some (.int hi),some (.int k),some (.int (val 0 ds)),none,none]∧m=r.length,
   ⟨_,[],bs.drop k,dx,rfl,by simp,ha,But.refl,rfl,rfl⟩,?_⟩
  rintro m σ H1 ⟨ds,r,dx1,e1,hds,ha1,b1,rfl,rfl⟩
  have row1:RowAt H1 rl bs:=hrow.but ⟨dx,ha⟩ b1
  have dr:=drop_split e1
  refine ⟨_,rfl,a,dx1,_,rfl,ha1,rfl,a,rl,p,k + ds.length,bs,rfl,⟨dx1,ha1⟩,SqL.of row1,_,rfl,_,rfl,?_⟩
  rw [pk_drop,dr,dig_hd]
  refine ite2 (fun hdg=>?_) fun hdg=>?_
  ·obtain ⟨c,r',rfl,hc⟩:=headDigit_iff.mp hdg
   refine ⟨fun σ' H'=>∃dx',H' a=some (.ins C dx' (scF rl p ((k + (ds++[c]).length:Nat))))∧But a H H'∧
    σ'=[some (.ref a),some (.int lo),some (.int hi),some (.int k),some (.int (val 0 (ds++[c]))),none,none],fun σ' H' ⟨dx',h1,h2,h3⟩=>⟨r'.length,Nat.lt_succ_self _,ds++[c],r',dx',by rw [e1];simp,fun x hx=>?_,h1,h2,h3,rfl⟩,?_⟩
   ·rcases List.mem_append.mp hx with z | z
    ·exact hds x z
    ·rw [List.mem_singleton.mp z];exact hc
   ·refine ⟨_,rfl,_,_,rfl,rfl,.inr ⟨by decide,by decide⟩,_,rfl,a,dx1,_,rfl,ha1,rfl,a,rl,p,k + ds.length,bs,rfl,⟨dx1,ha1⟩,SqL.of row1,fun H2 ⟨dx2,ha2⟩ b2=>?_⟩
    refine ⟨_,_,rfl,rfl,_,_,rfl,rfl,dx2,?_,b1.trans b2,?_⟩
    ·rw [ha2,List.length_append]
     rfl
    ·rw [pk_drop,dr,val_snoc]
     have h48:=(isDigit_iff.mp hc).1
     show [some (V.ref a),some (V.int lo),some (V.int hi),some (V.int k),some (V.int ((val 0 ds:Int) * 10 + (c.toNat:Int) - 48)),none,none]=_
     have:((val 0 ds:Int) * 10 + (c.toNat:Int) - 48)=((10 * val 0 ds + (c.toNat - 48):Nat):Int):=by omega
     rw [this]
  ·have hend:∀x,r.head?=some x→Fc.isDigit x=false:=fun x hx=>by
    cases r with
    | nil=>cases hx
    | cons y t=>cases hx;exact Bool.eq_false_iff.mpr hdg
   have es:scanNum lo hi (bs.drop k)=if ds.length=0∨(1 < ds.length∧(bs.drop k).head?=some 48)∨¬(lo≤val 0 ds∧val 0 ds≤hi) then none else some (val 0 ds,r):=by
    unfold scanNum
    rw [show digitsIn (bs.drop k)=(val 0 ds,ds.length,r) by rw [e1];exact digitsIn_of hds hend]
   refine ⟨_,rfl,a,C,dx1,_,_,rfl,ha1,T.cl,T.nAt,rfl,_,rfl,_,_,rfl,rfl,?_⟩
   have edg:((k + ds.length:Nat):Int) - (k:Int)=(ds.length:Int):=by omega
   dsimp only
   rw [edg]
   refine ⟨fun σ' H'=>σ'=[some (.ref a),some (.int lo),some (.int hi),some (.int k),some (.int (val 0 ds)),some (.int ds.length),some (.bl (decide (1 < ds.length∧(bs.drop k).head?=some 48)))]∧H1=H',?_,?_⟩
   refine ⟨_,rfl,_,_,rfl,rfl,_,rfl,?_⟩
   refine ite2 (fun h=>?_) (fun h=>?_)
   ·have h1:1 < ds.length:=by have:=of_decide_eq_true h;omega
    obtain ⟨c0,t0,et⟩:∃c0 t0,ds=c0::t0:=by
     cases ds with
     | nil=>cases h1
     | cons c0 t0=>exact ⟨c0,t0,rfl⟩
    have e0:bs[k]?=some c0:=by
     have:=congrArg (fun l=>l[0]?) e1
     rw [List.getElem?_drop,et] at this
     exact this
    refine ⟨_,rfl,a,C,dx1,_,_,rfl,ha1,T.cl,T.nRow,rfl,_,rfl,rl,_,_,_,rfl,rfl,SqL.of row1,atI_nat (j:=k) (v:=vb c0) (by rw [List.getElem?_map,e0];rfl),rfl,?_⟩
    have ez:decide (1 < ds.length∧(bs.drop k).head?=some 48)=decide (vb c0=V.int 48):=by
     rw [e1,et]
     rw [et] at h1
     have:(vb c0=V.int 48)↔c0=48:=by
      constructor
      ·intro z
       have z':(c0.toNat:Int)=48:=V.int.inj z
       exact UInt8.toNat_inj.mp (by show c0.toNat=48;omega)
      ·rintro rfl;rfl
     have h1':0 < t0.length:=by simpa using h1
     simp [h1',this]
    rw [ez]
    exact ⟨rfl,rfl⟩
   ·have h1:¬1 < ds.length:=fun z=>h (decide_eq_true (by omega))
    have ez:decide (1 < ds.length∧(bs.drop k).head?=some 48)=false:=by simp [h1]
    rw [ez]
    exact ⟨rfl,rfl⟩
   ·rintro σ' H' ⟨rfl,rfl⟩
    have hw:(ds.length=0∨(1 < ds.length∧(bs.drop k).head?=some 48)∨¬(lo≤val 0 ds∧val 0 ds≤hi))→Wrong wf p a H E:=fun z=>qe (by rw [es,if_pos z])
    refine ⟨_,rfl,rfl,_,rfl,?_⟩
    refine ite2 (fun h=>iteT ?_) fun h=>?_
    ·have h0:ds.length=0:=by have:=V.int.inj (of_decide_eq_true h);omega
     exact ⟨_,rfl,a,C,dx1,_,_,rfl,ha1,T.cl,T.nPlace,rfl,fun ae dxe H2 g1 g2 g3=>hw (.inl h0) dxe H2 g2 (b1.trans (Same.but g3))⟩
    ·have h0:ds.length≠0:=fun z=>h (decide_eq_true (by rw [z];rfl))
     refine ⟨_,rfl,_,rfl,?_⟩
     refine ite2 (fun h=>iteT ?_) fun h2=>?_
     ·exact ⟨_,rfl,a,C,dx1,_,_,rfl,ha1,T.cl,T.nPlace,rfl,fun ae dxe H2 g1 g2 g3=>hw (.inr (.inl (of_decide_eq_true h))) dxe H2 g2 (b1.trans (Same.but g3))⟩
     ·refine ⟨_,rfl,_,rfl,_,_,rfl,rfl,_,rfl,?_⟩
      refine ite2 (fun h3=>?_) fun h3=>?_
      ·refine ⟨_,rfl,_,_,rfl,rfl,_,rfl,?_⟩
       by_cases h4:val 0 ds≤hi
       ·have e4:decide (((val 0 ds:Nat):Int)≤((hi:Nat):Int))=true:=decide_eq_true (by omega)
        rw [e4]
        refine iteF ⟨_,rfl,qo (val 0 ds) r ?_ H1 ⟨k + ds.length,⟨dx1,ha1⟩,len_split hk e1,dr⟩ b1⟩
        rw [es,if_neg]
        rintro (z | z | z)
        ·exact h0 z
        ·exact h2 (decide_eq_true z)
        ·exact z ⟨by have:=of_decide_eq_true h3;omega,h4⟩
       ·have e4:decide (((val 0 ds:Nat):Int)≤((hi:Nat):Int))=false:=decide_eq_false (by omega)
        rw [e4]
        exact iteT ⟨_,rfl,a,C,dx1,_,_,rfl,ha1,T.cl,T.nPlace,rfl,fun ae dxe H2 g1 g2 g3=>hw (.inr (.inr fun z=>h4 z.2)) dxe H2 g2 (b1.trans (Same.but g3))⟩
      ·refine ⟨_,rfl,iteT ⟨_,rfl,a,C,dx1,_,_,rfl,ha1,T.cl,T.nPlace,rfl,fun ae dxe H2 g1 g2 g3=>hw (.inr (.inr fun z=>h3 (decide_eq_true (by omega)))) dxe H2 g2 (b1.trans (Same.but g3))⟩⟩
end
end Fm
namespace Fm
open PySem PySem.Spec PyProof.Rows L2
open Fc (Bytes digitsIn Size)
structure TSd (K:PySem.W.Frag) (mg:Str→Option Value):Prop where
 DOLLAR:GI mg "DOLLAR" 36
 STAR:GI mg "STAR" 42
 POINT:GI mg "POINT" 46
 HARG:GI mg "HIGHEST_ARGUMENT" 16
 HAM:GI mg "HIGHEST_AMOUNT" 999
 FLAGS:GT K mg "FLAGS" [.int 45,.int 43,.int 32,.int 48,.int 35]
 CONV:GT K mg "CONVERSIONS" [.int 100,.int 105,.int 117,.int 111,.int 120,.int 88,.int 99,.int 115]
 DBL:GT K mg "DOUBLED_LENGTHS" [.str "h",.str "l"]
def amF (pr st:Bool) (n g:Int):List (Str×V):=[("present",.bl pr),("star",.bl st),("number",.int n),("argument",.int g)]
structure TAm (K:PySem.W.Frag) (C:Addr):Prop where
 cl:Cls K C
 nPr:NoAttr K C "present"
 nSt:NoAttr K C "star"
 nNu:NoAttr K C "number"
 nAr:NoAttr K C "argument"
def AmAt (C:Addr) (H:Hp) (a:Addr) (pr st:Bool) (n g:Nat):Prop:=∃dx,H a=some (.ins C dx (amF pr st n g))
def AmS (C:Addr) (H:Hp) (a:Addr):Size→Prop
 | .none=>AmAt C H a false false 0 0
 | .empty=>AmAt C H a true false 0 0
 | .is n=>AmAt C H a true false n 0
 | .next=>AmAt C H a true true 0 0
 | .arg n=>AmAt C H a true true 0 n
def spAmInit (C:Addr):Sp:=fun vs H Q _=>∃(x dx:Addr),vs=[.ref x]∧H x=some (.ins C dx [])∧∀H',AmAt C H' x false false 0 0→But x H H'→Q .non H'
def spScanArg (C wf:Addr):Sp:=fun vs H Q E=>∃(a rl:Addr) (p:Nat) (bs b:Bytes),vs=[.ref a]∧ScOn C H a rl p bs b∧RowAt H rl bs∧
 (∀n r,scanArg b=some (n,r)→∀H',ScOn C H' a rl p bs r→But a H H'→Q (.int n) H')∧(scanArg b=none→Wrong wf p a H E)
def spArgNext (C:Addr):Sp:=fun vs H Q _=>∃(a rl:Addr) (p:Nat) (bs b:Bytes),vs=[.ref a]∧ScOn C H a rl p bs b∧RowAt H rl bs∧Q (.bl (argNext b)) H
theorem Wrong.but {wf a:Addr} {p:Nat} {H H1:Hp} {E:XK} (h:Wrong wf p a H E) (b:But a H H1):Wrong wf p a H1 E:=fun dx H' h1 h2=>h dx H' h1 (b.trans h2)
theorem drop_head {bs b:Bytes} {k:Nat} (h:bs.drop k=b):bs[k]?=b.head?:=by
 rw [←h,List.head?_drop]
theorem drop_tail {bs b:Bytes} {k:Nat} (h:bs.drop k=b):bs.drop (k + 1)=b.tail:=by
 rw [←h,List.tail_drop]
theorem hd_36 {b:Bytes} {c:UInt8}:hd b=c.toNat↔b.head?=some c:=by
 cases b with
 | nil=>
  constructor
  ·intro h
   have:(256:Nat)=c.toNat:=h
   have:=c.toNat_lt
   omega
  ·intro h;cases h
 | cons x t=>
  show x.toNat=c.toNat↔some x=some c
  rw [UInt8.toNat_inj,Option.some.injEq]
theorem hd_int {b:Bytes} {c:UInt8} {i:Int} (hi:i=(c.toNat:Int)):decide (V.int (hd b)=V.int i)=decide (b.head?=some c):=by
 have:(V.int (hd b)=V.int i)↔b.head?=some c:=by
  rw [←hd_36,hi]
  constructor
  ·intro h;have:=V.int.inj h;omega
  ·intro h;rw [h]
 simp [this]
theorem iteB {b c:Bool} {A B:Prop} (e:b=c) (h:if c=true then A else B):if b=true then A else B:=by rw [e];exact h
section
variable {P:Program} {w:World} {K:PySem.W.Frag} {mg:Str→Option Value} {base:Heap}
theorem ok_Amount_init {f C:Addr} {fd:FuncData} (F:Fun K "__init__" "Amount.__init__" s_Amount_init f fd) (T:TAm K C):FnOk P w K mg base CX0 1 f fd ["self"] (spAmInit C):=by
 refine F.ok sc_Amount_init (fun vs H Q E h=>?_) (fun cdv A outer s H vs Q E hr h=>?_)
 ·obtain ⟨x,dx,rfl,_⟩:=h
  rfl
 ·obtain ⟨x,dx,rfl,hx,k⟩:=h
  refine ⟨_,pss_cons (ps_fld (pv 0) pe_bl rfl) (pss_cons (ps_fld (pv 0) pe_bl rfl) (pss_cons (ps_fld (pv 0) pe_int rfl) (pss_one (ps_fld (pv 0) pe_int rfl)))),?_⟩
  refine ⟨_,rfl,x,C,dx,_,rfl,hx,T.cl,T.nPr,(by show 0 < 1000;decide),?_⟩
  refine ⟨_,rfl,x,C,dx,_,rfl,upd_same,T.cl,T.nSt,(by show 1 < 1000;decide),?_⟩
  refine ⟨_,rfl,x,C,dx,_,rfl,upd_same,T.cl,T.nNu,(by show 2 < 1000;decide),?_⟩
  refine ⟨_,rfl,x,C,dx,_,rfl,upd_same,T.cl,T.nAr,(by show 3 < 1000;decide),?_⟩
  refine k _ ⟨dx,upd_same⟩ fun b o hb hn=>?_
  rw [upd_ne hn,upd_ne hn,upd_ne hn,upd_ne hn]
  exact hb
theorem ok_scan_argument {f C wf:Addr} {fd:FuncData} (F:Fun K "scan_argument" "scan_argument" s_scan_argument f fd) (T:TSc K mg C) (S:TSd K mg) (cTake:CalM P w K mg base CX0 C "take" ["self"] 2 (spTake K C))
 (cNum:Cal P w K mg base (CXe P w) "scan_number" ["scanner","least","most"] 4 (spScanNum C wf)) (cWF:CalX P w K mg base wf "WrongFormat" 1 "place"):FnOk P w K mg base (CXe P w) 5 f fd ["scanner"] (spScanArg C wf):=by
 refine F.okx sc_scan_argument (fun vs H Q E h=>?_) (fun cdv A outer s H vs Q E hr h=>?_)
 ·obtain ⟨a,rl,p,bs,b,rfl,_⟩:=h
  rfl
 ·obtain ⟨a,rl,p,bs,b,rfl,⟨k,hat,hk,rfl⟩,hrow,qo,qe⟩:=h
  have hr2:Room 2 _:=hr.mono (by decide)
  refine ⟨_,pss_cons (ps_set (i:=1) sc_scan_argument.nd rfl (Or.inl rfl) (pe_cal cNum hr leave_ok.passes (pa_cons (pv 0) (pa_cons pe_int (pa_cons (pe_gi S.HARG) pa_nil)))))
   (pss_cons (ps_if (pt_cmpR op_ne (pe_calm0 (pv 0) cTake hr2 pass0) (pe_gi S.DOLLAR) (nomark _)) (pss_one (ps_raise1 cWF hr2 (pe_fld (pv 0) rfl) leave_ok)) pss_nil)
   (pss_one (ps_ret (pv 1)))),?_⟩
  refine ⟨_,rfl,a,rl,p,k,1,16,bs,rfl,hat,hk,hrow,fun n r e H1 on1 b1=>?_,fun e=>qe ?_⟩
  ·obtain ⟨k1,⟨dx1,ha1⟩,hk1,rfl⟩:=on1
   have row1:=hrow.but hat b1
   refine ⟨_,rfl,a,dx1,_,rfl,ha1,rfl,a,rl,p,k1,bs,rfl,⟨dx1,ha1⟩,SqL.of row1,fun H2 ⟨dx2,ha2⟩ b2=>?_⟩
   refine ⟨rfl,_,rfl,?_⟩
   have e2:scanArg (bs.drop k)=if (bs.drop k1).head?=some 36 then some (n,(bs.drop k1).tail) else none:=by
    unfold scanArg
    rw [show scanNum 1 Fc.ARGS (bs.drop k)=some (n,bs.drop k1) from e]
   rw [pk_drop,hd_int (i:=36) (c:=36) rfl]
   by_cases h36:(bs.drop k1).head?=some 36
   ·rw [decide_eq_true h36]
    refine iteF ⟨_,rfl,qo n _ (by rw [e2,if_pos h36]) H2 ⟨k1 + 1,⟨dx2,ha2⟩,?_,drop_tail rfl⟩ (b1.trans b2)⟩
    have:=(List.getElem?_eq_some_iff.mp ((drop_head rfl).trans h36)).1
    omega
   ·rw [decide_eq_false h36]
    exact iteT ⟨_,rfl,a,C,dx2,_,_,rfl,ha2,T.cl,T.nPlace,rfl,fun ae dxe H3 g1 g2 g3=>qe (by rw [e2,if_neg h36]) dxe H3 g2 ((b1.trans b2).trans (Same.but g3))⟩
  ·unfold scanArg
   rw [show scanNum 1 Fc.ARGS (bs.drop k)=none from e]
theorem ok_argument_is_next {f C:Addr} {fd:FuncData} (F:Fun K "argument_is_next" "argument_is_next" s_argument_is_next f fd) (T:TSc K mg C) (S:TSd K mg) (cDig:Cal P w K mg base CX0 "is_digit" ["sign"] 1 spDigit):
 FnOk P w K mg base CX0 2 f fd ["scanner"] (spArgNext C):=by
 refine F.ok sc_argument_is_next (fun vs H Q E h=>?_) (fun cdv A outer s H vs Q E hr h=>?_)
 ·obtain ⟨a,rl,p,bs,b,rfl,_⟩:=h
  rfl
 ·obtain ⟨a,rl,p,bs,b,rfl,⟨k,⟨dx,ha⟩,hk,rfl⟩,hrow,q⟩:=h
  refine ⟨_,pss_cons (ps_set (i:=1) sc_argument_is_next.nd rfl (Or.inl rfl) (pe_fld (pv 0) rfl))
   (pss_cons (ps_while PassesOwn.never (pw_and (pt_cmpR op_lt (pv 1) (pe_callB call_len_seq (by rfl) T.len PySem.boot_len (pa_cons (pe_fld (pv 0) rfl) pa_nil)) (nomark _))
    (pw_and1 (pt_val (pe_cal cDig hr pass0 (pa_cons (pe_ix ix_list (pe_fld (pv 0) rfl) (pv 1) (fun _ _=>rfl)) pa_nil))))).pt
    (pss_one (ps_aug (i:=1) sc_argument_is_next.nd rfl (Or.inl rfl) pe_int iop_add)))
   (pss_one (ps_ret (pe_and (pe_chain op_lt op_lt (pe_fld (pv 0) rfl) (pv 1) (pe_callB call_len_seq (by rfl) T.len PySem.boot_len (pa_cons (pe_fld (pv 0) rfl) pa_nil)))
    (pe_one (pe_cmpR op_eq (pe_ix ix_list (pe_fld (pv 0) rfl) (pv 1) (fun _ _=>rfl)) (pe_gi S.DOLLAR) (nomark _))))))),?_⟩
  refine ⟨_,rfl,a,C,dx,_,_,rfl,ha,T.cl,T.nAt,rfl,?_⟩
  refine ⟨fun m σ H'=>∃ds r,bs.drop k=ds++r∧(∀c∈ds,Fc.isDigit c=true)∧H=H'∧σ=[some (.ref a),some (.int ((k + ds.length:Nat)))]∧m=r.length,⟨_,[],bs.drop k,rfl,by simp,rfl,rfl,rfl⟩,?_⟩
  rintro m σ H1 ⟨ds,r,e1,hds,rfl,rfl,rfl⟩
  have dr:=drop_split e1
  have ls:=len_split hk e1
  refine ⟨_,rfl,_,rfl,a,C,dx,_,_,rfl,ha,T.cl,T.nRow,rfl,rl,_,rfl,.inl (SqL.of hrow),_,_,rfl,rfl,_,rfl,?_⟩
  rw [List.length_map]
  have fin:(∀x,r.head?=some x→Fc.isDigit x=false)→argNext (bs.drop k)=(decide (0 < ds.length)&&r.head?==some 36):=fun hend=>by
   unfold argNext
   rw [show digitsIn (bs.drop k)=(val 0 ds,ds.length,r) by rw [e1];exact digitsIn_of hds hend]
  have told:(∀x,r.head?=some x→Fc.isDigit x=false)→tAndV (tChain (rI0 fun i j=>.bl (decide (i < j))) (rI0 fun i j=>.bl (decide (i < j))) (tFld K (tVar 0) "at") (tVar 1)
   (tCB (fun xs H Q=>∃p ys,xs=[V.ref p]∧(SqL K H p ys∨SqT K H p ys)∧Q (.int ys.length) H) (tCons (tFld K (tVar 0) "row") tNil)))
   (tOp rEq (tOp (rIxL K) (tFld K (tVar 0) "row") (tVar 1)) (tC (.int 36))) [some (.ref a),some (.int ((k + ds.length:Nat)))] H Q:=fun hend=>by
   rw [fin hend] at q
   refine ⟨_,rfl,a,C,dx,_,_,rfl,ha,T.cl,T.nAt,rfl,_,rfl,_,_,rfl,rfl,_,rfl,?_⟩
   by_cases h0:0 < ds.length
   ·rw [decide_eq_true h0,Bool.true_and] at q
    refine iteB (c:=true) (decide_eq_true (by omega)) (iteT ?_)
    refine ⟨_,rfl,a,C,dx,_,_,rfl,ha,T.cl,T.nRow,rfl,rl,_,rfl,.inl (SqL.of hrow),_,_,rfl,rfl,_,rfl,?_⟩
    rw [List.length_map]
    cases r with
    | nil=>
     have hl:=List.drop_eq_nil_iff.mp dr
     refine iteB (c:=false) (decide_eq_false (by omega)) (iteF ?_)
     exact q
    | cons c r'=>
     have hb:bs[k + ds.length]?=some c:=drop_head dr
     have hl:=(List.getElem?_eq_some_iff.mp hb).1
     refine iteB (c:=true) (decide_eq_true (by omega)) (iteT ?_)
     refine ⟨_,rfl,a,C,dx,_,_,rfl,ha,T.cl,T.nRow,rfl,_,rfl,rl,_,_,_,rfl,rfl,SqL.of hrow,atI_nat (j:=k + ds.length) (v:=vb c) (by rw [List.getElem?_map,hb];rfl),rfl,?_⟩
     have e3:decide (vb c=V.int 36)=((c::r').head?==some 36):=by
      have:=hd_int (b:=c::r') (i:=36) (c:=36) rfl
      rw [show vb c=V.int (hd (c::r')) from rfl,this]
      exact (Bool.beq_eq_decide_eq _ _).symm
     rw [e3]
     exact q
   ·rw [decide_eq_false h0,Bool.false_and] at q
    refine iteB (c:=false) (decide_eq_false (by omega)) (iteF ⟨_,rfl,iteF q⟩)
  cases r with
  | nil=>
   have hl:=List.drop_eq_nil_iff.mp dr
   exact iteB (c:=false) (decide_eq_false (by omega)) (iteF (iteF (told (by simp))))
  | cons c r'=>
   have hb:bs[k + ds.length]?=some c:=drop_head dr
   have hl:=(List.getElem?_eq_some_iff.mp hb).1
   refine iteB (c:=true) (decide_eq_true (by omega)) (iteT ?_)
   refine ⟨_,rfl,a,C,dx,_,_,rfl,ha,T.cl,T.nRow,rfl,_,rfl,rl,_,_,_,rfl,rfl,SqL.of hrow,atI_nat (j:=k + ds.length) (v:=vb c) (by rw [List.getElem?_map,hb];rfl),_,rfl,_,rfl,?_⟩
   have ed:dig (c.toNat:Int)=Fc.isDigit c:=dig_hd (c::r')
   rw [ed]
   refine ite2 (fun hc=>?_) fun hc=>?_
   ·refine ⟨fun σ' H'=>H=H'∧σ'=[some (.ref a),some (.int ((k + (ds++[c]).length:Nat)))],fun σ' H' ⟨h1,h2⟩=>⟨r'.length,Nat.lt_succ_self _,ds++[c],r',by rw [e1];simp,fun x hx=>?_,h1,h2,rfl⟩,?_⟩
    ·rcases List.mem_append.mp hx with z | z
     ·exact hds x z
     ·rw [List.mem_singleton.mp z];exact hc
    ·refine ⟨_,rfl,_,_,rfl,rfl,rfl,?_⟩
     show [some (V.ref a),some (V.int (((k + ds.length:Nat):Int) + 1))]=_
     have:(((k + ds.length:Nat):Int) + 1)=((k + (ds++[c]).length:Nat):Int):=by
      rw [List.length_append,List.length_singleton];omega
     rw [this]
   ·exact told fun x hx=>by cases hx;exact Bool.eq_false_iff.mpr hc
end
end Fm
namespace Fm
open PySem PySem.Spec PyProof.Rows L2
open Fc (Bytes digitsIn Size)
theorem eqV_vb (y c:UInt8):eqV (vb y) (vb c)=(y==c):=by
 show decide ((y.toNat:Int)=(c.toNat:Int))=(y==c)
 rw [Bool.beq_eq_decide_eq]
 congr 1
 rw [←UInt8.toNat_inj]
 exact propext (by omega)
theorem inV_map (c:UInt8) (got:Bytes):inV (vb c) (got.map vb)=got.contains c:=by
 unfold inV
 rw [List.any_map]
 induction got with
 | nil=>rfl
 | cons x t ih=>
  rw [List.any_cons,ih,List.contains_cons]
  show (eqV (vb x) (vb c)||_)=_
  rw [eqV_vb,BEq.comm]
theorem flat_map (got:Bytes):(got.map vb).all flatV=true:=by
 rw [List.all_map,List.all_eq_true]
 intro x _
 rfl
abbrev FL:List V:=[.int 45,.int 43,.int 32,.int 48,.int 35]
theorem inV_flags (r:Bytes):inV (.int (hd r)) FL=match r with | c::_=>Fc.isFlag c | []=>false:=by
 cases r with
 | nil=>decide
 | cons c t=>
  have:=u8_all (fun c=>inV (vb c) FL==Fc.isFlag c) (by decide +kernel) c
  exact beq_iff_eq.mp this
def spScanFlags (C wf:Addr):Sp:=fun vs H Q E=>∃(a rl:Addr) (p:Nat) (bs b:Bytes),vs=[.ref a]∧ScOn C H a rl p bs b∧RowAt H rl bs∧bs.length≤1000∧
 (∀g r,scanFlags [] b=some (g,r)→∀l H',H l=none→H' l=some (.lst (g.map vb))→ScOn C H' a rl p bs r→But a H H'→Q (.ref l) H')∧(scanFlags [] b=none→Wrong wf p a H E)
section
variable {P:Program} {w:World} {K:PySem.W.Frag} {mg:Str→Option Value} {base:Heap}
theorem ok_scan_flags {f C wf:Addr} {fd:FuncData} (F:Fun K "scan_flags" "scan_flags" s_scan_flags f fd) (T:TSc K mg C) (S:TSd K mg) (cPeek:CalM P w K mg base CX0 C "peek" ["self"] 1 (spPeek K C)) (cTake:CalM P w K mg base CX0 C "take" ["self"] 2 (spTake K C))
 (cWF:CalX P w K mg base wf "WrongFormat" 1 "place"):FnOk P w K mg base (CXe P w) 4 f fd ["scanner"] (spScanFlags C wf):=by
 refine F.okx sc_scan_flags (fun vs H Q E h=>?_) (fun cdv A outer s H vs Q E hr h=>?_)
 ·obtain ⟨a,rl,p,bs,b,rfl,_⟩:=h
  rfl
 ·obtain ⟨a,rl,p,bs,b,rfl,⟨k,⟨dx,ha⟩,hk,rfl⟩,hrow,hbs,qo,qe⟩:=h
  have hr1:Room 1 _:=hr.mono (by decide)
  have hr2:Room 2 _:=hr.mono (by decide)
  refine ⟨_,pss_cons (ps_set (i:=1) sc_scan_flags.nd rfl (Or.inl rfl) (pe_lst pa_nil))
   (pss_cons (ps_while PassesOwn.leaving (pt_cmpR op_in_seq (pe_calm0 (pv 0) cPeek hr1 pass0) (pe_gt S.FLAGS) (by with_unfolding_all rfl))
    (pss_cons (ps_set (i:=2) sc_scan_flags.nd rfl (Or.inl rfl) (pe_calm0 (pv 0) cTake hr2 pass0))
    (pss_cons (ps_if (pt_cmpR op_in_seq (pv 2) (pv 1) (by with_unfolding_all rfl)) (pss_one (ps_raise1 cWF hr2 (pe_fld (pv 0) rfl) leave_ok)) pss_nil)
    (pss_one (ps_expr (pe_bm PySem.F.plainAttrs_list PySem.F.slot_list_append PySem.F.type_list_append mt_append (pv 1) (pa_cons (pv 2) pa_nil)))))))
   (pss_one (ps_ret (pv 1)))),?_⟩
  refine ⟨Nat.zero_le _,fun l hl=>?_⟩
  have al:a≠l:=ne_of_none ha hl
  refine ⟨fun m σ H'=>∃got r k1 dx1 v,scanFlags got r=scanFlags [] (bs.drop k)∧bs.drop k1=r∧k1≤bs.length∧H' a=some (.ins C dx1 (scF rl p (k1:Nat)))∧H' l=some (.lst (got.map vb))∧But a H H'∧got.length + r.length≤1000∧
   σ=[some (.ref a),some (.ref l),v]∧m=r.length,⟨_,[],bs.drop k,k,dx,none,rfl,rfl,hk,?_,upd_same,fun b o hb _=>?_,?_,rfl,rfl⟩,?_⟩
  ·rw [upd_ne al];exact ha
  ·rw [upd_ne (ne_of_none hb hl)];exact hb
  ·rw [List.length_drop]
   show 0 + (bs.length - k)≤1000
   omega
  rintro m σ H1 ⟨got,r,k1,dx1,v,e1,rfl,hk1,ha1,hl1,b1,hsz,rfl,rfl⟩
  have row1:RowAt H1 rl bs:=hrow.but ⟨dx,ha⟩ b1
  refine ⟨_,rfl,a,dx1,_,rfl,ha1,rfl,a,rl,p,k1,bs,rfl,⟨dx1,ha1⟩,SqL.of row1,fun fl hfl=>?_⟩
  refine ⟨fl,_,rfl,.inr (hfl _),rfl,by decide,_,rfl,?_⟩
  rw [pk_drop]
  show if inV (.int (hd (bs.drop k1))) FL=true then _ else _
  rw [inV_flags]
  cases hdr:bs.drop k1 with
  | nil=>
   refine iteF ⟨_,rfl,qo got [] (by rw [←e1,hdr];rfl) l H1 hl hl1 ⟨k1,⟨dx1,ha1⟩,hk1,hdr⟩ b1⟩
  | cons c r'=>
   refine ite2 (fun hc=>?_) fun hc=>?_
   ·refine ⟨fun σ' H'=>∃dx2 v',H' a=some (.ins C dx2 (scF rl p ((k1 + 1:Nat))))∧H' l=some (.lst ((got++[c]).map vb))∧But a H H'∧scanFlags (got++[c]) r'=scanFlags [] (bs.drop k)∧σ'=[some (.ref a),some (.ref l),v'],
     fun σ' H' ⟨dx2,v',h1,h2,h3,h4,h5⟩=>⟨r'.length,Nat.lt_succ_self _,got++[c],r',k1 + 1,dx2,v',h4,?_,?_,h1,h2,h3,?_,h5,rfl⟩,?_⟩
    ·rw [drop_tail hdr];rfl
    ·have:=(List.getElem?_eq_some_iff.mp ((drop_head hdr).trans rfl)).1
     omega
    ·rw [hdr] at hsz
     rw [List.length_append,List.length_singleton]
     rw [List.length_cons] at hsz
     omega
    ·refine ⟨_,rfl,a,dx1,_,rfl,ha1,rfl,a,rl,p,k1,bs,rfl,⟨dx1,ha1⟩,SqL.of row1,fun H2 ⟨dx2,ha2⟩ b2=>?_⟩
     have hl2:H2 l=some (.lst (got.map vb)):=b2 _ _ hl1 al.symm
     rw [pk_drop,hdr]
     refine ⟨_,rfl,_,rfl,l,_,rfl,.inl (SqL.of hl2),rfl,flat_map got,_,rfl,?_⟩
     show if inV (vb c) (got.map vb)=true then _ else _
     rw [inV_map]
     have e2:scanFlags got (c::r')=if got.contains c=true then none else scanFlags (got++[c]) r':=by rw [scanFlags,if_pos hc]
     refine ite2 (fun hg=>?_) fun hg=>?_
     ·exact ⟨_,rfl,a,C,dx2,_,_,rfl,ha2,T.cl,T.nPlace,rfl,fun ae dxe H3 g1 g2 g3=>qe (by rw [←e1,hdr,e2,if_pos hg]) dxe H3 g2 ((b1.trans b2).trans (Same.but g3))⟩
     ·refine ⟨_,rfl,.inl ⟨rfl,_,SqL.of hl2⟩,_,rfl,l,_,_,rfl,rfl,hl2,?_,dx2,_,?_,?_,?_,?_,rfl⟩
      ·rw [List.length_map]
       exact small1000 (by omega)
      ·rw [upd_ne al];exact ha2
      ·rw [upd_same,List.map_append];rfl
      ·intro b o hb hn
       rw [upd_ne (fun z=>by rw [z,hl] at hb;cases hb)]
       exact (b1.trans b2) b o hb hn
      ·rw [←e1,hdr,e2,if_neg hg]
   ·refine ⟨_,rfl,qo got (c::r') ?_ l H1 hl hl1 ⟨k1,⟨dx1,ha1⟩,hk1,hdr⟩ b1⟩
    rw [←e1,hdr,scanFlags,if_neg hc]
end
end Fm
namespace Fm
open PySem PySem.Spec PyProof.Rows L2
open Fc (Bytes digitsIn Size)
def AmEnd (Ca C wf:Addr) (a rl:Addr) (p:Nat) (bs:Bytes) (H:Hp) (Q:VK) (E:XK) (o:Option (Size×Bytes)):Prop:=
 (∀sz r,o=some (sz,r)→∀x H',H x=none→AmS Ca H' x sz→ScOn C H' a rl p bs r→But a H H'→Q (.ref x) H')∧(o=none→Wrong wf p a H E)
def spScanStar (Ca C wf:Addr):Sp:=fun vs H Q E=>∃(a rl:Addr) (p:Nat) (bs b:Bytes),vs=[.ref a]∧ScOn C H a rl p bs b∧RowAt H rl bs∧b≠[]∧AmEnd Ca C wf a rl p bs H Q E (scanStar b.tail)
def spScanWritten (Ca C wf:Addr):Sp:=fun vs H Q E=>∃(a rl:Addr) (p lo:Nat) (bs b:Bytes),vs=[.ref a,.int lo]∧ScOn C H a rl p bs b∧RowAt H rl bs∧AmEnd Ca C wf a rl p bs H Q E ((scanNum lo Fc.WIDE b).map fun x=>(Size.is x.1,x.2))
def spScanWidth (Ca C wf:Addr):Sp:=fun vs H Q E=>∃(a rl:Addr) (p:Nat) (bs b:Bytes),vs=[.ref a]∧ScOn C H a rl p bs b∧RowAt H rl bs∧AmEnd Ca C wf a rl p bs H Q E (scanWidth b)
def spScanPrec (Ca C wf:Addr):Sp:=fun vs H Q E=>∃(a rl:Addr) (p:Nat) (bs b:Bytes),vs=[.ref a]∧ScOn C H a rl p bs b∧RowAt H rl bs∧AmEnd Ca C wf a rl p bs H Q E (scanPrec b)
theorem amNew {C:Addr} {H H1:Hp} {x dx:Addr} (nx:H x=none) (nd:H dx=none) (k:But x (upd (upd H dx (.own x)) x (.ins C dx [])) H1):Same H H1:=fun b o hb=>by
 have h1:b≠x:=ne_of_none hb nx
 exact k b o (by rw [upd_ne h1,upd_ne (ne_of_none hb nd)];exact hb) h1
theorem Same.free' {H H':Hp} (e:Same H H') {l:Addr} (h:H' l=none):H l=none:=Same.free e h
section
variable {P:Program} {w:World} {K:PySem.W.Frag} {mg:Str→Option Value} {base:Heap}
theorem ok_scan_star {f Ca C wf:Addr} {fd:FuncData} (F:Fun K "scan_star" "scan_star" s_scan_star f fd) (T:TSc K mg C) (TA:TAm K Ca) (cAm:CalC P w K mg base Ca "Amount" ["self"] 1 (spAmInit Ca))
 (cPeek:CalM P w K mg base CX0 C "peek" ["self"] 1 (spPeek K C)) (cTake:CalM P w K mg base CX0 C "take" ["self"] 2 (spTake K C)) (cDig:Cal P w K mg base CX0 "is_digit" ["sign"] 1 spDigit)
 (cArg:Cal P w K mg base (CXe P w) "scan_argument" ["scanner"] 5 (spScanArg C wf)):FnOk P w K mg base (CXe P w) 6 f fd ["scanner"] (spScanStar Ca C wf):=by
 refine F.okx sc_scan_star (fun vs H Q E h=>?_) (fun cdv A outer s H vs Q E hr h=>?_)
 ·obtain ⟨a,rl,p,bs,b,rfl,_⟩:=h
  rfl
 ·obtain ⟨a,rl,p,bs,b,rfl,⟨k,⟨dx,ha⟩,hk,rfl⟩,hrow,hb,qo,qe⟩:=h
  have hr1:Room 1 _:=hr.mono (by decide)
  have hr2:Room 2 _:=hr.mono (by decide)
  refine ⟨_,pss_cons (ps_set (i:=1) sc_scan_star.nd rfl (Or.inl rfl) (pe_calc0 cAm hr2))
   (pss_cons (ps_fld (pv 1) pe_bl rfl) (pss_cons (ps_fld (pv 1) pe_bl rfl) (pss_cons (ps_expr (pe_calm0 (pv 0) cTake hr2 pass0))
   (pss_cons (ps_if (pt_val (pe_cal cDig hr1 pass0 (pa_cons (pe_calm0 (pv 0) cPeek hr1 pass0) pa_nil)))
    (pss_one (ps_fld (pv 1) (pe_cal cArg hr leave_ok.passes (pa_cons (pv 0) pa_nil)) rfl)) pss_nil)
   (pss_one (ps_ret (pv 1))))))),?_⟩
  intro x dxx nx nd nxd
  refine ⟨x,dxx,rfl,upd_same,fun H1 ⟨dm,hx1⟩ k1=>⟨rfl,?_⟩⟩
  have s1:Same H H1:=amNew nx nd k1
  have ax:a≠x:=ne_of_none ha nx
  refine ⟨_,rfl,x,Ca,dm,_,rfl,hx1,TA.cl,TA.nPr,(by show 4 < 1000;decide),?_⟩
  refine ⟨_,rfl,x,Ca,dm,_,rfl,upd_same,TA.cl,TA.nSt,(by show 4 < 1000;decide),?_⟩
  generalize hH2:upd (upd H1 x _) x _=H2
  have hx2:H2 x=some (.ins Ca dm (amF true true 0 0)):=by rw [←hH2,upd_same];rfl
  have s2:Same H H2:=fun b o hb=>by
   have h1:b≠x:=ne_of_none hb nx
   rw [←hH2,upd_ne h1,upd_ne h1]
   exact s1 b o hb
  have ha2:=s2 _ _ ha
  have row2:=s2 _ _ hrow
  refine ⟨_,rfl,a,dx,_,rfl,ha2,rfl,a,rl,p,k,bs,rfl,⟨dx,ha2⟩,SqL.of row2,fun H3 ⟨dx3,ha3⟩ b3=>?_⟩
  have row3:RowAt H3 rl bs:=RowAt.but row2 ⟨dx,ha2⟩ b3
  have hx3:H3 x=some (.ins Ca dm (amF true true 0 0)):=b3 _ _ hx2 ax.symm
  have hk1:k + 1≤bs.length:=by
   cases e:bs.drop k with
   | nil=>exact absurd e hb
   | cons c t=>
    have:=(List.getElem?_eq_some_iff.mp ((drop_head e).trans rfl)).1
    omega
  have B3:But a H H3:=fun b o hb hn=>b3 b o (s2 b o hb) hn
  refine ⟨_,rfl,a,dx3,_,rfl,ha3,rfl,a,rl,p,k + 1,bs,rfl,⟨dx3,ha3⟩,SqL.of row3,_,rfl,_,rfl,?_⟩
  rw [pk_drop,drop_tail rfl,dig_hd]
  refine ite2 (fun hd=>?_) fun hd=>?_
  ·refine ⟨_,rfl,a,rl,p,bs,(bs.drop k).tail,rfl,⟨k + 1,⟨dx3,ha3⟩,hk1,drop_tail rfl⟩,row3,fun n r e H4 on4 b4=>?_,fun e=>?_⟩
   ·have hx4:H4 x=some (.ins Ca dm (amF true true 0 0)):=b4 _ _ hx3 ax.symm
    refine ⟨_,rfl,x,Ca,dm,_,rfl,hx4,TA.cl,TA.nAr,(by show 4 < 1000;decide),?_⟩
    refine ⟨_,rfl,qo (.arg n) r ?_ x _ nx ⟨dm,upd_same⟩ ?_ ?_⟩
    ·unfold scanStar
     rw [if_pos hd,e]
     rfl
    ·obtain ⟨k4,⟨dx4,ha4⟩,hk4,e4⟩:=on4
     exact ⟨k4,⟨dx4,by rw [upd_ne ax];exact ha4⟩,hk4,e4⟩
    ·intro b o hb hn
     rw [upd_ne (ne_of_none hb nx)]
     exact b4 b o (B3 b o hb hn) hn
   ·refine (qe ?_).but B3
    unfold scanStar
    rw [if_pos hd,e]
    rfl
  ·refine ⟨_,rfl,qo .next ((bs.drop k).tail) ?_ x H3 nx ⟨dm,hx3⟩ ⟨k + 1,⟨dx3,ha3⟩,hk1,drop_tail rfl⟩ B3⟩
   unfold scanStar
   rw [if_neg hd]
theorem ok_scan_written {f Ca C wf:Addr} {fd:FuncData} (F:Fun K "scan_written" "scan_written" s_scan_written f fd) (T:TSc K mg C) (TA:TAm K Ca) (S:TSd K mg) (cAm:CalC P w K mg base Ca "Amount" ["self"] 1 (spAmInit Ca))
 (cNum:Cal P w K mg base (CXe P w) "scan_number" ["scanner","least","most"] 4 (spScanNum C wf)):FnOk P w K mg base (CXe P w) 5 f fd ["scanner","least"] (spScanWritten Ca C wf):=by
 refine F.okx sc_scan_written (fun vs H Q E h=>?_) (fun cdv A outer s H vs Q E hr h=>?_)
 ·obtain ⟨a,rl,p,lo,bs,b,rfl,_⟩:=h
  rfl
 ·obtain ⟨a,rl,p,lo,bs,b,rfl,⟨k,⟨dx,ha⟩,hk,rfl⟩,hrow,qo,qe⟩:=h
  have hr2:Room 2 _:=hr.mono (by decide)
  refine ⟨_,pss_cons (ps_set (i:=2) sc_scan_written.nd rfl (Or.inl rfl) (pe_calc0 cAm hr2))
   (pss_cons (ps_fld (pv 2) pe_bl rfl)
   (pss_cons (ps_fld (pv 2) (pe_cal cNum hr leave_ok.passes (pa_cons (pv 0) (pa_cons (pv 1) (pa_cons (pe_gi S.HAM) pa_nil)))) rfl)
   (pss_one (ps_ret (pv 2))))),?_⟩
  intro x dxx nx nd nxd
  refine ⟨x,dxx,rfl,upd_same,fun H1 ⟨dm,hx1⟩ k1=>⟨rfl,?_⟩⟩
  have s1:Same H H1:=amNew nx nd k1
  have ax:a≠x:=ne_of_none ha nx
  refine ⟨_,rfl,x,Ca,dm,_,rfl,hx1,TA.cl,TA.nPr,(by show 4 < 1000;decide),?_⟩
  generalize hH2:upd H1 x _=H2
  have hx2:H2 x=some (.ins Ca dm (amF true false 0 0)):=by rw [←hH2,upd_same];rfl
  have s2:Same H H2:=fun b o hb=>by
   rw [←hH2,upd_ne (ne_of_none hb nx)]
   exact s1 b o hb
  have ha2:=s2 _ _ ha
  have row2:=s2 _ _ hrow
  refine ⟨_,rfl,_,rfl,a,rl,p,k,lo,999,bs,rfl,⟨dx,ha2⟩,hk,row2,fun n r e H3 on3 b3=>?_,fun e=>?_⟩
  ·have hx3:H3 x=some (.ins Ca dm (amF true false 0 0)):=b3 _ _ hx2 ax.symm
   refine ⟨_,rfl,x,Ca,dm,_,rfl,hx3,TA.cl,TA.nNu,(by show 4 < 1000;decide),?_⟩
   refine ⟨_,rfl,qo (.is n) r ?_ x _ nx ⟨dm,upd_same⟩ ?_ ?_⟩
   ·rw [show scanNum lo Fc.WIDE (bs.drop k)=some (n,r) from e]
    rfl
   ·obtain ⟨k4,⟨dx4,ha4⟩,hk4,e4⟩:=on3
    exact ⟨k4,⟨dx4,by rw [upd_ne ax];exact ha4⟩,hk4,e4⟩
   ·intro b o hb hn
    rw [upd_ne (ne_of_none hb nx)]
    exact b3 b o (s2 b o hb) hn
  ·refine (qe ?_).but (Same.but s2)
   rw [show scanNum lo Fc.WIDE (bs.drop k)=none from e]
   rfl
theorem ok_scan_width {f Ca C wf:Addr} {fd:FuncData} (F:Fun K "scan_width" "scan_width" s_scan_width f fd) (T:TSc K mg C) (TA:TAm K Ca) (S:TSd K mg) (cAm:CalC P w K mg base Ca "Amount" ["self"] 1 (spAmInit Ca))
 (cPeek:CalM P w K mg base CX0 C "peek" ["self"] 1 (spPeek K C)) (cDig:Cal P w K mg base CX0 "is_digit" ["sign"] 1 spDigit) (cStar:Cal P w K mg base (CXe P w) "scan_star" ["scanner"] 6 (spScanStar Ca C wf))
 (cWr:Cal P w K mg base (CXe P w) "scan_written" ["scanner","least"] 5 (spScanWritten Ca C wf)):FnOk P w K mg base (CXe P w) 7 f fd ["scanner"] (spScanWidth Ca C wf):=by
 refine F.okx sc_scan_width (fun vs H Q E h=>?_) (fun cdv A outer s H vs Q E hr h=>?_)
 ·obtain ⟨a,rl,p,bs,b,rfl,_⟩:=h
  rfl
 ·obtain ⟨a,rl,p,bs,b,rfl,on,hrow,q⟩:=h
  have hr1:Room 1 _:=hr.mono (by decide)
  have hr2:Room 2 _:=hr.mono (by decide)
  have hr5:Room 5 _:=hr.mono (by decide)
  refine ⟨_,pss_cons (ps_if (pt_cmpR op_eq (pe_calm0 (pv 0) cPeek hr1 pass0) (pe_gi S.STAR) (nomark _)) (pss_one (ps_ret (pe_cal cStar hr leave_ok.passes (pa_cons (pv 0) pa_nil)))) pss_nil)
   (pss_cons (ps_if (pt_val (pe_cal cDig hr1 pass0 (pa_cons (pe_calm0 (pv 0) cPeek hr1 pass0) pa_nil))) (pss_one (ps_ret (pe_cal cWr hr5 leave_ok.passes (pa_cons (pv 0) (pa_cons pe_int pa_nil))))) pss_nil)
   (pss_one (ps_ret (pe_calc0 cAm hr2)))),?_⟩
  obtain ⟨k,⟨dx,ha⟩,hk,e⟩:=id on
  refine ⟨_,rfl,a,dx,_,rfl,ha,rfl,a,rl,p,k,bs,rfl,⟨dx,ha⟩,SqL.of hrow,rfl,_,rfl,?_⟩
  rw [pk_drop,e,hd_int (i:=42) (c:=42) rfl]
  by_cases h42:b.head?=some 42
  ·rw [decide_eq_true h42]
   have eq:scanWidth b=scanStar b.tail:=by unfold scanWidth;rw [if_pos h42]
   rw [eq] at q
   exact iteT ⟨_,rfl,a,rl,p,bs,b,rfl,on,hrow,(by rintro rfl;cases h42),q⟩
  ·rw [decide_eq_false h42]
   refine iteF ⟨_,rfl,a,dx,_,rfl,ha,rfl,a,rl,p,k,bs,rfl,⟨dx,ha⟩,SqL.of hrow,_,rfl,_,rfl,?_⟩
   rw [pk_drop,e,dig_hd]
   refine ite2 (fun hdg=>?_) fun hdg=>?_
   ·have eq:scanWidth b=(scanNum 1 Fc.WIDE b).map fun x=>(Size.is x.1,x.2):=by unfold scanWidth;rw [if_neg h42,if_pos hdg]
    rw [eq] at q
    exact ⟨_,rfl,a,rl,p,1,bs,b,rfl,on,hrow,q⟩
   ·have eq:scanWidth b=some (.none,b):=by unfold scanWidth;rw [if_neg h42,if_neg hdg]
    intro x dxx nx nd nxd
    refine ⟨x,dxx,rfl,upd_same,fun H1 am1 k1=>⟨rfl,?_⟩⟩
    have s1:Same H H1:=amNew nx nd k1
    exact q.1 _ _ eq x H1 nx am1 ⟨k,⟨dx,s1 _ _ ha⟩,hk,e⟩ (Same.but s1)
theorem ok_scan_precision {f Ca C wf:Addr} {fd:FuncData} (F:Fun K "scan_precision" "scan_precision" s_scan_precision f fd) (T:TSc K mg C) (TA:TAm K Ca) (S:TSd K mg) (cAm:CalC P w K mg base Ca "Amount" ["self"] 1 (spAmInit Ca))
 (cPeek:CalM P w K mg base CX0 C "peek" ["self"] 1 (spPeek K C)) (cTake:CalM P w K mg base CX0 C "take" ["self"] 2 (spTake K C)) (cDig:Cal P w K mg base CX0 "is_digit" ["sign"] 1 spDigit)
 (cStar:Cal P w K mg base (CXe P w) "scan_star" ["scanner"] 6 (spScanStar Ca C wf)) (cWr:Cal P w K mg base (CXe P w) "scan_written" ["scanner","least"] 5 (spScanWritten Ca C wf)):
 FnOk P w K mg base (CXe P w) 7 f fd ["scanner"] (spScanPrec Ca C wf):=by
 refine F.okx sc_scan_precision (fun vs H Q E h=>?_) (fun cdv A outer s H vs Q E hr h=>?_)
 ·obtain ⟨a,rl,p,bs,b,rfl,_⟩:=h
  rfl
 ·obtain ⟨a,rl,p,bs,b,rfl,on,hrow,q⟩:=h
  have hr1:Room 1 _:=hr.mono (by decide)
  have hr2:Room 2 _:=hr.mono (by decide)
  have hr5:Room 5 _:=hr.mono (by decide)
  refine ⟨_,pss_cons (ps_if (pt_cmpR op_ne (pe_calm0 (pv 0) cPeek hr1 pass0) (pe_gi S.POINT) (nomark _)) (pss_one (ps_ret (pe_calc0 cAm hr2))) pss_nil)
   (pss_cons (ps_expr (pe_calm0 (pv 0) cTake hr2 pass0))
   (pss_cons (ps_if (pt_cmpR op_eq (pe_calm0 (pv 0) cPeek hr1 pass0) (pe_gi S.STAR) (nomark _)) (pss_one (ps_ret (pe_cal cStar hr leave_ok.passes (pa_cons (pv 0) pa_nil)))) pss_nil)
   (pss_cons (ps_if (pt_val (pe_cal cDig hr1 pass0 (pa_cons (pe_calm0 (pv 0) cPeek hr1 pass0) pa_nil))) (pss_one (ps_ret (pe_cal cWr hr5 leave_ok.passes (pa_cons (pv 0) (pa_cons pe_int pa_nil))))) pss_nil)
   (pss_cons (ps_set (i:=1) sc_scan_precision.nd rfl (Or.inl rfl) (pe_calc0 cAm hr2)) (pss_cons (ps_fld (pv 1) pe_bl rfl) (pss_one (ps_ret (pv 1)))))))),?_⟩
  obtain ⟨k,⟨dx,ha⟩,hk,e⟩:=id on
  refine ⟨_,rfl,a,dx,_,rfl,ha,rfl,a,rl,p,k,bs,rfl,⟨dx,ha⟩,SqL.of hrow,rfl,_,rfl,?_⟩
  rw [pk_drop,e,hd_int (i:=46) (c:=46) rfl]
  by_cases h46:b.head?=some 46
  ·rw [decide_eq_true h46]
   refine iteF ⟨_,rfl,a,dx,_,rfl,ha,rfl,a,rl,p,k,bs,rfl,⟨dx,ha⟩,SqL.of hrow,fun H1 ⟨dx1,ha1⟩ b1=>?_⟩
   have row1:RowAt H1 rl bs:=RowAt.but hrow ⟨dx,ha⟩ b1
   have hk1:k + 1≤bs.length:=by
    have:=(List.getElem?_eq_some_iff.mp ((drop_head e).trans h46)).1
    omega
   have on1:ScOn C H1 a rl p bs b.tail:=⟨k + 1,⟨dx1,ha1⟩,hk1,drop_tail e⟩
   have e1:=drop_tail e
   have eq0:scanPrec b=scanPoint b.tail:=by unfold scanPrec;rw [if_pos h46]
   rw [eq0] at q
   have q1:AmEnd Ca C wf a rl p bs H1 Q E (scanPoint b.tail):=⟨fun sz r er x H' nx am on' b'=>q.1 sz r er x H' (by
    cases hx:H x with
    | none=>rfl
    | some o=>
     by_cases hxa:x=a
     ·rw [hxa,ha1] at nx;cases nx
     ·rw [b1 x o hx hxa] at nx;cases nx) am on' (b1.trans b'),fun er=>(q.2 er).but b1⟩
   refine ⟨_,rfl,a,dx1,_,rfl,ha1,rfl,a,rl,p,k + 1,bs,rfl,⟨dx1,ha1⟩,SqL.of row1,rfl,_,rfl,?_⟩
   rw [pk_drop,e1,hd_int (i:=42) (c:=42) rfl]
   by_cases h42:b.tail.head?=some 42
   ·rw [decide_eq_true h42]
    have eq:scanPoint b.tail=scanStar b.tail.tail:=by unfold scanPoint;rw [if_pos h42]
    rw [eq] at q1
    exact iteT ⟨_,rfl,a,rl,p,bs,b.tail,rfl,on1,row1,(by intro z;rw [z] at h42;cases h42),q1⟩
   ·rw [decide_eq_false h42]
    refine iteF ⟨_,rfl,a,dx1,_,rfl,ha1,rfl,a,rl,p,k + 1,bs,rfl,⟨dx1,ha1⟩,SqL.of row1,_,rfl,_,rfl,?_⟩
    rw [pk_drop,e1,dig_hd]
    refine ite2 (fun hdg=>?_) fun hdg=>?_
    ·have eq:scanPoint b.tail=(scanNum 0 Fc.WIDE b.tail).map fun x=>(Size.is x.1,x.2):=by unfold scanPoint;rw [if_neg h42,if_pos hdg]
     rw [eq] at q1
     exact ⟨_,rfl,a,rl,p,0,bs,b.tail,rfl,on1,row1,q1⟩
    ·have eq:scanPoint b.tail=some (.empty,b.tail):=by unfold scanPoint;rw [if_neg h42,if_neg hdg]
     intro x dxx nx nd nxd
     refine ⟨x,dxx,rfl,upd_same,fun H2 ⟨dm,am2⟩ k2=>⟨rfl,?_⟩⟩
     have s2:Same H1 H2:=amNew nx nd k2
     have ax:a≠x:=ne_of_none ha1 nx
     refine ⟨_,rfl,x,Ca,dm,_,rfl,am2,TA.cl,TA.nPr,(by show 4 < 1000;decide),?_⟩
     refine ⟨_,rfl,q1.1 _ _ eq x _ nx ⟨dm,upd_same⟩ ⟨k + 1,⟨dx1,?_⟩,hk1,e1⟩ ?_⟩
     ·rw [upd_ne ax];exact s2 _ _ ha1
     ·intro b' o hb hn
      rw [upd_ne (ne_of_none hb nx)]
      exact s2 b' o hb
  ·rw [decide_eq_false h46]
   have eq:scanPrec b=some (.none,b):=by unfold scanPrec;rw [if_neg h46]
   refine iteT ?_
   intro x dxx nx nd nxd
   refine ⟨x,dxx,rfl,upd_same,fun H1 am1 k1=>⟨rfl,?_⟩⟩
   have s1:Same H H1:=amNew nx nd k1
   exact q.1 _ _ eq x H1 nx am1 ⟨k,⟨dx,s1 _ _ ha⟩,hk,e⟩ (Same.but s1)
end
end Fm
namespace Fm
open PySem PySem.Spec PyProof.Rows L2
open Fc (Bytes digitsIn Size Len lenIn Conv convIn)
abbrev LK:List (Key×V):=[(.inl 104,.str "h"),(.inl 108,.str "l"),(.inl 106,.str "j"),(.inl 122,.str "z")]
def lenStr:Len→Str
 | .plain=>""
 | .hh=>"hh"
 | .h=>"h"
 | .l=>"l"
 | .ll=>"ll"
 | .j=>"j"
 | .z=>"z"
theorem lk_none {i:Int} (h1:i≠104) (h2:i≠108) (h3:i≠106) (h4:i≠122):valV LK (Sum.inl i)=none:=by
 rw [valV_neg (fun e=>h1 (Sum.inl.inj e).symm),valV_neg (fun e=>h2 (Sum.inl.inj e).symm),valV_neg (fun e=>h3 (Sum.inl.inj e).symm),valV_neg (fun e=>h4 (Sum.inl.inj e).symm)]
 rfl
def spScanLen (C:Addr):Sp:=fun vs H Q _=>∃(a rl:Addr) (p:Nat) (bs b:Bytes),vs=[.ref a]∧ScOn C H a rl p bs b∧RowAt H rl bs∧∀H',ScOn C H' a rl p bs (lenIn b).2→But a H H'→Q (.str (lenStr (lenIn b).1)) H'
def convByte (c:Conv) (i:Bool):Nat:=match c with
 | .signed=>if i=true then 105 else 100
 | .unsigned=>117
 | .octal=>111
 | .hex=>120
 | .HEX=>88
 | .char=>99
 | .text=>115
def spScanConv (C wf:Addr):Sp:=fun vs H Q E=>∃(a rl:Addr) (p:Nat) (bs b:Bytes),vs=[.ref a]∧ScOn C H a rl p bs b∧RowAt H rl bs∧
 (∀c i r,convIn b=some (c,i,r)→∀H',ScOn C H' a rl p bs r→But a H H'→Q (.int (convByte c i)) H')∧(convIn b=none→Wrong wf p a H E)
abbrev CV:List V:=[.int 100,.int 105,.int 117,.int 111,.int 120,.int 88,.int 99,.int 115]
theorem conv_in (b:Bytes):(inV (.int (hd b)) CV=true∧∃c i,convIn b=some (c,i,b.tail)∧hd b=convByte c i∧b≠[])∨(inV (.int (hd b)) CV=false∧convIn b=none):=by
 cases b with
 | nil=>exact .inr ⟨by decide,rfl⟩
 | cons c t=>
  by_cases h:c=100∨c=105∨c=117∨c=111∨c=120∨c=88∨c=99∨c=115
  ·refine .inl ?_
   rcases h with rfl | rfl | rfl | rfl | rfl | rfl | rfl | rfl
   ·exact ⟨rfl,.signed,false,rfl,rfl,by simp⟩
   ·exact ⟨rfl,.signed,true,rfl,rfl,by simp⟩
   ·exact ⟨rfl,.unsigned,false,rfl,rfl,by simp⟩
   ·exact ⟨rfl,.octal,false,rfl,rfl,by simp⟩
   ·exact ⟨rfl,.hex,false,rfl,rfl,by simp⟩
   ·exact ⟨rfl,.HEX,false,rfl,rfl,by simp⟩
   ·exact ⟨rfl,.char,false,rfl,rfl,by simp⟩
   ·exact ⟨rfl,.text,false,rfl,rfl,by simp⟩
  ·simp only [not_or] at h
   refine .inr ⟨?_,convIn_none h⟩
   have:=u8_all (fun c=>!(inV (vb c) CV)||(c==100||(c==105||(c==117||(c==111||(c==120||(c==88||(c==99||c==115)))))))) (by decide +kernel) c
   simp only [Bool.or_eq_true,beq_iff_eq,h.1,h.2.1,h.2.2.1,h.2.2.2.1,h.2.2.2.2.1,h.2.2.2.2.2.1,h.2.2.2.2.2.2.1,h.2.2.2.2.2.2.2,or_false,Bool.not_eq_true'] at this
   exact this
theorem len_cases (b:Bytes):(∃(c:UInt8) (t:Bytes) (z:Str) (dbl:Bool) (L1 L2:Len),b=c::t∧valV LK (Sum.inl (hd b:Int))=some (.str z)∧decide (V.str z=V.str "")=false∧inV (.str z) [.str "h",.str "l"]=dbl∧z.length + z.length≤sizeLine∧
 (dbl=true→t.head?=some c→lenIn b=(L2,t.tail)∧lenStr L2=z++z)∧((dbl=false∨t.head?≠some c)→lenIn b=(L1,t)∧lenStr L1=z))∨(valV LK (Sum.inl (hd b:Int))=none∧lenIn b=(.plain,b)):=by
 cases b with
 | nil=>exact .inr ⟨rfl,rfl⟩
 | cons c t=>
  by_cases h1:c=104
  ·subst h1
   refine .inl ⟨104,t,"h",true,.h,.hh,rfl,rfl,by decide +kernel,by decide +kernel,by decide +kernel,fun _ h=>?_,fun h=>?_⟩
   ·cases t with
    | nil=>cases h
    | cons y u=>cases h;exact ⟨rfl,by decide +kernel⟩
   ·have h:t.head?≠some 104:=h.resolve_left (by decide)
    refine ⟨?_,rfl⟩
    unfold lenIn
    split<;>simp_all
  by_cases h2:c=108
  ·subst h2
   refine .inl ⟨108,t,"l",true,.l,.ll,rfl,rfl,by decide +kernel,by decide +kernel,by decide +kernel,fun _ h=>?_,fun h=>?_⟩
   ·cases t with
    | nil=>cases h
    | cons y u=>cases h;exact ⟨rfl,by decide +kernel⟩
   ·have h:t.head?≠some 108:=h.resolve_left (by decide)
    refine ⟨?_,rfl⟩
    unfold lenIn
    split<;>simp_all
  by_cases h3:c=106
  ·subst h3
   exact .inl ⟨106,t,"j",false,.j,.j,rfl,rfl,by decide +kernel,by decide +kernel,by decide +kernel,(fun z=>by cases z),fun _=>⟨rfl,rfl⟩⟩
  by_cases h4:c=122
  ·subst h4
   exact .inl ⟨122,t,"z",false,.z,.z,rfl,rfl,by decide +kernel,by decide +kernel,by decide +kernel,(fun z=>by cases z),fun _=>⟨rfl,rfl⟩⟩
  have ne:∀d:UInt8,c≠d→((hd (c::t):Nat):Int)≠(d.toNat:Int):=fun d hd' z=>hd' (UInt8.toNat_inj.mp (by
   have:(c.toNat:Int)=(d.toNat:Int):=z
   omega))
  exact .inr ⟨lk_none (ne 104 h1) (ne 108 h2) (ne 106 h3) (ne 122 h4),lenIn_plain h1 h2 h3 h4⟩
section
variable {P:Program} {w:World} {K:PySem.W.Frag} {mg:Str→Option Value} {base:Heap}
theorem ok_scan_length {f C:Addr} {fd:FuncData} (F:Fun K "scan_length" "scan_length" s_scan_length f fd) (S:TSd K mg) (GL:GD P w K mg "LENGTHS" LK) (cPeek:CalM P w K mg base CX0 C "peek" ["self"] 1 (spPeek K C)) (cTake:CalM P w K mg base CX0 C "take" ["self"] 2 (spTake K C)):
 FnOk P w K mg base CX0 3 f fd ["scanner"] (spScanLen C):=by
 refine F.ok sc_scan_length (fun vs H Q E h=>?_) (fun cdv A outer s H vs Q E hr h=>?_)
 ·obtain ⟨a,rl,p,bs,b,rfl,_⟩:=h
  rfl
 ·obtain ⟨a,rl,p,bs,b,rfl,on,hrow,q⟩:=h
  have hr1:Room 1 _:=hr.mono (by decide)
  refine ⟨_,pss_cons (ps_set (i:=1) sc_scan_length.nd rfl (Or.inl rfl) (pe_gdget2 GL (pe_calm0 (pv 0) cPeek hr1 pass0) pe_str ⟨rfl,rfl,rfl,rfl⟩))
   (pss_cons (ps_if (pt_cmpR op_eq (pv 1) pe_str (nomark _)) (pss_one (ps_ret (pv 1))) pss_nil)
   (pss_cons (ps_set (i:=2) sc_scan_length.nd rfl (Or.inl rfl) (pe_calm0 (pv 0) cTake hr pass0))
   (pss_cons (ps_if (pw_and (pt_cmpR op_in_seq (pv 1) (pe_gt S.DBL) (by with_unfolding_all rfl)) (pw_and1 (pt_cmpR op_eq (pe_calm0 (pv 0) cPeek hr1 pass0) (pv 2) (nomark _)))).pt
    (pss_cons (ps_expr (pe_calm0 (pv 0) cTake hr pass0)) (pss_one (ps_ret (pe_op op_add_str (pv 1) (pv 1))))) pss_nil)
   (pss_one (ps_ret (pv 1)))))),?_⟩
  obtain ⟨k,⟨dx,ha⟩,hk,e⟩:=id on
  refine ⟨_,rfl,a,dx,_,rfl,ha,rfl,a,rl,p,k,bs,rfl,⟨dx,ha⟩,SqL.of hrow,Sum.inl (hd b:Int),(by rw [pk_drop,e];rfl),?_⟩
  rcases len_cases b with ⟨c,t,z,dbl,L1,L2,rfl,hv,hz,hin,hlen,hd2,hd1⟩ | ⟨hv,hl⟩
  ·rw [hv]
   refine ⟨_,rfl,rfl,_,rfl,?_⟩
   refine iteB (c:=false) hz (iteF ?_)
   have hk1:k + 1≤bs.length:=by
    have:=(List.getElem?_eq_some_iff.mp ((drop_head e).trans rfl)).1
    omega
   refine ⟨_,rfl,a,dx,_,rfl,ha,rfl,a,rl,p,k,bs,rfl,⟨dx,ha⟩,SqL.of hrow,fun H1 ⟨dx1,ha1⟩ b1=>?_⟩
   have row1:RowAt H1 rl bs:=RowAt.but hrow ⟨dx,ha⟩ b1
   have e1:=drop_tail e
   rw [pk_drop,e]
   refine ⟨_,rfl,fun fl hfl=>⟨fl,_,rfl,.inr (hfl _),rfl,by decide +kernel,_,rfl,?_⟩⟩
   show if inV (.str z) [.str "h",.str "l"]=true then _ else _
   rw [hin]
   have fin:(dbl=false∨t.head?≠some c)→Q (.str z) H1:=fun h=>by
    obtain ⟨g1,g2⟩:=hd1 h
    have:=q H1 (by rw [g1];exact ⟨k + 1,⟨dx1,ha1⟩,hk1,e1⟩) b1
    rw [g1,g2] at this
    exact this
   cases dbl with
   | false=>exact iteF (iteF ⟨_,rfl,fin (.inl rfl)⟩)
   | true=>
    refine iteT ⟨_,rfl,a,dx1,_,rfl,ha1,rfl,a,rl,p,k + 1,bs,rfl,⟨dx1,ha1⟩,SqL.of row1,_,rfl,rfl,_,rfl,?_⟩
    rw [pk_drop,e1]
    have ed:decide (V.int (hd (c::t).tail)=V.int (hd (c::t)))=decide (t.head?=some c):=hd_int (b:=t) (c:=c) rfl
    rw [ed]
    by_cases hh:t.head?=some c
    ·rw [decide_eq_true hh]
     obtain ⟨g1,g2⟩:=hd2 rfl hh
     refine iteT ⟨_,rfl,a,dx1,_,rfl,ha1,rfl,a,rl,p,k + 1,bs,rfl,⟨dx1,ha1⟩,SqL.of row1,fun H2 ⟨dx2,ha2⟩ b2=>?_⟩
     refine ⟨_,rfl,_,rfl,_,_,rfl,rfl,hlen,?_⟩
     have hk2:k + 1 + 1≤bs.length:=by
      have:=(List.getElem?_eq_some_iff.mp ((drop_head e1).trans hh)).1
      omega
     have:=q H2 (by rw [g1];exact ⟨k + 1 + 1,⟨dx2,ha2⟩,hk2,drop_tail e1⟩) (b1.trans b2)
     rw [g1,g2] at this
     exact this
    ·rw [decide_eq_false hh]
     exact iteF ⟨_,rfl,fin (.inr hh)⟩
  ·rw [hv]
   refine ⟨_,rfl,rfl,_,rfl,?_⟩
   refine iteB (c:=true) (by decide +kernel) (iteT ⟨_,rfl,?_⟩)
   rw [hl] at q
   exact q H on But.refl
theorem ok_scan_conversion {f C wf:Addr} {fd:FuncData} (F:Fun K "scan_conversion" "scan_conversion" s_scan_conversion f fd) (T:TSc K mg C) (S:TSd K mg) (cTake:CalM P w K mg base CX0 C "take" ["self"] 2 (spTake K C))
 (cWF:CalX P w K mg base wf "WrongFormat" 1 "place"):FnOk P w K mg base (CXe P w) 4 f fd ["scanner"] (spScanConv C wf):=by
 refine F.okx sc_scan_conversion (fun vs H Q E h=>?_) (fun cdv A outer s H vs Q E hr h=>?_)
 ·obtain ⟨a,rl,p,bs,b,rfl,_⟩:=h
  rfl
 ·obtain ⟨a,rl,p,bs,b,rfl,⟨k,⟨dx,ha⟩,hk,e⟩,hrow,qo,qe⟩:=h
  have hr2:Room 2 _:=hr.mono (by decide)
  refine ⟨_,pss_cons (ps_set (i:=1) sc_scan_conversion.nd rfl (Or.inl rfl) (pe_calm0 (pv 0) cTake hr2 pass0))
   (pss_cons (ps_if (pt_cmpR op_notIn_seq (pv 1) (pe_gt S.CONV) (by with_unfolding_all rfl)) (pss_one (ps_raise1 cWF hr2 (pe_fld (pv 0) rfl) leave_ok)) pss_nil)
   (pss_one (ps_ret (pv 1)))),?_⟩
  refine ⟨_,rfl,a,dx,_,rfl,ha,rfl,a,rl,p,k,bs,rfl,⟨dx,ha⟩,SqL.of hrow,fun H1 ⟨dx1,ha1⟩ b1=>?_⟩
  rw [pk_drop,e]
  refine ⟨_,rfl,fun fl hfl=>⟨fl,_,rfl,.inr (hfl _),rfl,by decide,_,rfl,?_⟩⟩
  show if (!inV (.int (hd b)) CV)=true then _ else _
  rcases conv_in b with ⟨h1,c,i,h2,h3,h4⟩ | ⟨h1,h2⟩
  ·rw [h1,h3]
   refine iteF ⟨_,rfl,qo c i b.tail h2 H1 ⟨k + 1,⟨dx1,ha1⟩,?_,drop_tail e⟩ b1⟩
   cases b with
   | nil=>exact absurd rfl h4
   | cons y t=>
    have:=(List.getElem?_eq_some_iff.mp ((drop_head e).trans rfl)).1
    omega
  ·rw [h1]
   exact iteT ⟨_,rfl,a,C,dx1,_,_,rfl,ha1,T.cl,T.nPlace,rfl,fun ae dxe H3 g1 g2 g3=>qe h2 dxe H3 g2 (b1.trans (Same.but g3))⟩
end
end Fm
namespace Fm
open PySem PySem.Spec PyProof.Rows L2
open Fc (Bytes)
structure TWf (K:PySem.W.Frag) (mg:Str→Option Value) (wf:Addr):Prop where
 exc:excIn K wf=true
 exn:mg "Exception"=none
 nSet:PySem.W.ownIn K "__setattr__" (.ref wf)=some none
 nPl:PySem.W.ownIn K "place" (.ref wf)=some none
theorem lk_place:typeLookup (.type "Exception") "place"=pure none:=by rw [typeLookup_type,builtinLookup_eq_fast];kernel_rfl
def crF (rl:Addr) (k:Int):List (Str×V):=[("numbers",.ref rl),("at",.int k)]
def CrOn (K:PySem.W.Frag) (C:Addr) (H:Hp) (a rl:Addr) (ns r:List Int):Prop:=SqL K H rl (ns.map V.int)∧∃(k:Nat) (dx:Addr),H a=some (.ins C dx (crF rl k))∧k≤ns.length∧ns.drop k=r
structure TCr (K:PySem.W.Frag) (mg:Str→Option Value) (C:Addr):Prop where
 cl:Cls K C
 nNu:NoAttr K C "numbers"
 nAt:NoAttr K C "at"
 len:mg "len"=none
theorem SqL.but {K:PySem.W.Frag} {H H':Hp} {a rl C dx:Addr} {fs:List (Str×V)} {xs:List V} (h:SqL K H rl xs) (ha:H a=some (.ins C dx fs)) (b:But a H H'):SqL K H' rl xs:=by
 rcases h with (h | ⟨o,h⟩) | h
 ·exact .inl (.inl (b _ _ h (ne_of h ha (by intro z;cases z))))
 ·exact .inl (.inr ⟨o,b _ _ h (ne_of h ha (by intro z;cases z))⟩)
 ·exact .inr h
def spCrInit (C:Addr):Sp:=fun vs H Q _=>∃(x dx rl:Addr),vs=[.ref x,.ref rl]∧H x=some (.ins C dx [])∧∀H',(∃dx',H' x=some (.ins C dx' (crF rl 0)))→But x H H'→Q .non H'
def spCrEnd (K:PySem.W.Frag) (C:Addr):Sp:=fun vs H Q _=>∃(a rl:Addr) (ns r:List Int),vs=[.ref a]∧CrOn K C H a rl ns r∧Q (.bl r.isEmpty) H
def spCrTake (K:PySem.W.Frag) (C:Addr):Sp:=fun vs H Q _=>∃(a rl:Addr) (ns:List Int) (z:Int) (t:List Int),vs=[.ref a]∧CrOn K C H a rl ns (z::t)∧∀H',CrOn K C H' a rl ns t→But a H H'→Q (.int z) H'
def spCrRow (K:PySem.W.Frag) (C:Addr):Sp:=fun vs H Q _=>∃(a rl:Addr) (ns x t:List Int),vs=[.ref a]∧CrOn K C H a rl ns ((x.length:Int)::(x++t))∧
 ∀l H',H l=none→H' l=some (.lst (x.map V.int))→CrOn K C H' a rl ns t→But a H H'→Q (.ref l) H'
section
variable {P:Program} {w:World} {K:PySem.W.Frag} {mg:Str→Option Value} {base:Heap}
theorem ok_WrongFormat_init {f wf:Addr} {fd:FuncData} (F:Fun K "__init__" "WrongFormat.__init__" s_WrongFormat_init f fd) (T:TWf K mg wf):FnOk P w K mg base CX0 1 f fd ["self","place"] (spExcInit wf "place"):=by
 refine F.ok sc_WrongFormat_init (fun vs H Q E h=>?_) (fun cdv A outer s H vs Q E hr h=>?_)
 ·obtain ⟨a,v,rfl,_⟩:=h
  rfl
 ·obtain ⟨a,v,rfl,ha,q⟩:=h
  refine ⟨_,pss_cons (ps_expr (pe_baseinit (by rfl) T.exn (pa_cons (pv 0) (pa_cons (pv 1) pa_nil)))) (pss_one (ps_excset (pv 0) (pv 1) rfl)),?_⟩
  refine ⟨_,rfl,_,rfl,a,v,wf,none,rfl,ha,T.exc,?_⟩
  exact ⟨_,rfl,_,rfl,a,wf,rfl,ha,T.exc,T.nSet,T.nPl,lk_place,q⟩
theorem ok_CallReader_init {f C:Addr} {fd:FuncData} (F:Fun K "__init__" "CallReader.__init__" s_CallReader_init f fd) (T:TCr K mg C):FnOk P w K mg base CX0 1 f fd ["self","numbers"] (spCrInit C):=by
 refine F.ok sc_CallReader_init (fun vs H Q E h=>?_) (fun cdv A outer s H vs Q E hr h=>?_)
 ·obtain ⟨x,dx,rl,rfl,_⟩:=h
  rfl
 ·obtain ⟨x,dx,rl,rfl,hx,k⟩:=h
  refine ⟨_,pss_cons (ps_fld (pv 0) (pv 1) rfl) (pss_one (ps_fld (pv 0) pe_int rfl)),?_⟩
  refine ⟨_,rfl,_,rfl,x,C,dx,_,rfl,hx,T.cl,T.nNu,(by show 0 < 1000;decide),?_⟩
  refine ⟨_,rfl,x,C,dx,_,rfl,upd_same,T.cl,T.nAt,(by show 1 < 1000;decide),?_⟩
  refine k _ ⟨dx,upd_same⟩ fun b o hb hn=>?_
  rw [upd_ne hn,upd_ne hn]
  exact hb
theorem ok_CallReader_at_end {f C:Addr} {fd:FuncData} (F:Fun K "at_end" "CallReader.at_end" s_CallReader_at_end f fd) (T:TCr K mg C):FnOk P w K mg base CX0 1 f fd ["self"] (spCrEnd K C):=by
 refine F.ok sc_CallReader_at_end (fun vs H Q E h=>?_) (fun cdv A outer s H vs Q E hr h=>?_)
 ·obtain ⟨a,rl,ns,r,rfl,_⟩:=h
  rfl
 ·obtain ⟨a,rl,ns,r,rfl,⟨hs,k,dx,ha,hk,e⟩,q⟩:=h
  refine ⟨_,pss_one (ps_ret (pe_cmpR op_ge (pe_fld (pv 0) rfl) (pe_callB call_len_seq (by rfl) T.len PySem.boot_len (pa_cons (pe_fld (pv 0) rfl) pa_nil)) (nomark _))),?_⟩
  refine ⟨_,rfl,a,C,dx,_,_,rfl,ha,T.cl,T.nAt,rfl,_,rfl,a,C,dx,_,_,rfl,ha,T.cl,T.nNu,rfl,rl,_,rfl,.inl hs,_,_,rfl,rfl,?_⟩
  have:decide (((ns.map V.int).length:Int)≤(k:Int))=r.isEmpty:=by
   rw [List.length_map,←e]
   cases h:ns.drop k with
   | nil=>
    have:=List.drop_eq_nil_iff.mp h
    exact decide_eq_true (by omega)
   | cons y t=>
    have:¬ns.length≤k:=fun z=>by rw [List.drop_eq_nil_of_le z] at h;cases h
    exact decide_eq_false (by omega)
  dsimp only
  rw [this]
  exact q
theorem ok_CallReader_take {f C:Addr} {fd:FuncData} (F:Fun K "take" "CallReader.take" s_CallReader_take f fd) (T:TCr K mg C):FnOk P w K mg base CX0 1 f fd ["self"] (spCrTake K C):=by
 refine F.ok sc_CallReader_take (fun vs H Q E h=>?_) (fun cdv A outer s H vs Q E hr h=>?_)
 ·obtain ⟨a,rl,ns,z,t,rfl,_⟩:=h
  rfl
 ·obtain ⟨a,rl,ns,z,t,rfl,⟨hs,k,dx,ha,hk,e⟩,q⟩:=h
  refine ⟨_,pss_cons (ps_set (i:=1) sc_CallReader_take.nd rfl (Or.inl rfl) (pe_ix ix_list (pe_fld (pv 0) rfl) (pe_fld (pv 0) rfl) (fun _ _=>rfl))) (pss_cons (ps_fldaug (pv 0) pe_int in_add) (pss_one (ps_ret (pv 1)))),?_⟩
  have hz:ns[k]?=some z:=by rw [←List.head?_drop,e];rfl
  have hl:=(List.getElem?_eq_some_iff.mp hz).1
  refine ⟨_,rfl,a,C,dx,_,_,rfl,ha,T.cl,T.nNu,rfl,_,rfl,a,C,dx,_,_,rfl,ha,T.cl,T.nAt,rfl,rl,_,_,_,rfl,rfl,hs,atI_nat (j:=k) (v:=.int z) (by rw [List.getElem?_map,hz];rfl),?_⟩
  refine ⟨_,rfl,a,C,dx,_,_,rfl,ha,T.cl,T.nAt,rfl,_,_,rfl,rfl,dx,_,ha,(by show 2 < 1000;decide),?_⟩
  refine ⟨_,rfl,q _ ⟨SqL.but hs ha But.upd,k + 1,dx,upd_same,by omega,?_⟩ But.upd⟩
  rw [←List.tail_drop,e];rfl
theorem ok_CallReader_take_row {f C:Addr} {fd:FuncData} (F:Fun K "take_row" "CallReader.take_row" s_CallReader_take_row f fd) (T:TCr K mg C) (cTake:CalM P w K mg base CX0 C "take" ["self"] 1 (spCrTake K C)):FnOk P w K mg base CX0 2 f fd ["self"] (spCrRow K C):=by
 refine F.ok sc_CallReader_take_row (fun vs H Q E h=>?_) (fun cdv A outer s H vs Q E hr h=>?_)
 ·obtain ⟨a,rl,ns,x,t,rfl,_⟩:=h
  rfl
 ·obtain ⟨a,rl,ns,x,t,rfl,on,q⟩:=h
  obtain ⟨hs,k,dx,ha,hk,e⟩:=id on
  refine ⟨_,pss_cons (ps_set (i:=1) sc_CallReader_take_row.nd rfl (Or.inl rfl) (pe_calm0 (pv 0) cTake hr pass0))
   (pss_cons (ps_set (i:=2) sc_CallReader_take_row.nd rfl (Or.inl rfl) (pe_slice sl_list (pe_fld (pv 0) rfl) (po_some (pe_fld (pv 0) rfl)) (po_some (pe_op op_add (pe_fld (pv 0) rfl) (pv 1)))))
   (pss_cons (ps_fldaug (pv 0) (pv 1) in_add) (pss_one (ps_ret (pv 2))))),?_⟩
  refine ⟨_,rfl,a,dx,_,rfl,ha,rfl,a,rl,ns,_,_,rfl,on,fun H1 ⟨hs1,k1,dx1,ha1,hk1,e1⟩ b1=>?_⟩
  refine ⟨_,rfl,a,C,dx1,_,_,rfl,ha1,T.cl,T.nNu,rfl,_,rfl,a,C,dx1,_,_,rfl,ha1,T.cl,T.nAt,rfl,_,rfl,_,rfl,a,C,dx1,_,_,rfl,ha1,T.cl,T.nAt,rfl,_,rfl,_,_,rfl,rfl,_,rfl,rl,_,rfl,hs1,fun l hl=>?_⟩
  have al:a≠l:=ne_of_none ha1 hl
  have split:ns=ns.take k1++(x++t):=by rw [←e1,List.take_append_drop]
  have lk1:(ns.take k1).length=k1:=by rw [List.length_take];omega
  have len:ns.length=k1 + x.length + t.length:=by
   have:=congrArg List.length split
   rw [List.length_append,List.length_append,lk1] at this
   omega
  have cut:cutV (ns.map V.int) (some (k1:Int)) (some ((k1:Int) + (x.length:Int)))=x.map V.int:=by
   have e3:((k1:Int) + (x.length:Int))=((k1 + x.length:Nat):Int):=by omega
   unfold cutV
   rw [e3,HT.sIx_nat,HT.sIx_nat,List.length_map,Nat.min_eq_left hk1,Nat.min_eq_left (by omega),Nat.add_sub_cancel_left,←List.map_drop,←List.map_take]
   congr 1
   rw [e1,List.take_left]
  rw [cut]
  refine ⟨_,rfl,a,C,dx1,_,_,rfl,(by rw [upd_ne al];exact ha1),T.cl,T.nAt,rfl,_,rfl,_,_,rfl,rfl,dx1,_,(by rw [upd_ne al];exact ha1),(by show 2 < 1000;decide),?_⟩
  have l0:H l=none:=by
   cases hx:H l with
   | none=>rfl
   | some o=>rw [b1 l o hx al.symm] at hl;cases hl
  have B:But a H1 (upd (upd H1 l (.lst (x.map V.int))) a (.ins C dx1 (putF "at" (.int ((k1:Int) + (x.length:Int))) (crF rl k1)))):=fun b o hb hn=>by
   rw [upd_ne hn,upd_ne (ne_of_none hb hl)];exact hb
  refine ⟨_,rfl,q l _ l0 ?_ ⟨SqL.but hs1 ha1 B,k1 + x.length,dx1,?_,by omega,?_⟩ (b1.trans B)⟩
  ·rw [upd_ne al.symm,upd_same]
  ·rw [upd_same]
   rfl
  ·rw [←List.drop_drop,e1,List.drop_left]
end
end Fm
namespace Fm
open PySem PySem.Spec PyProof.Rows L2
open Fc (Bytes digitsIn Size Len lenIn Conv convIn)
def szPres:Size→Bool
 | .none=>false
 | _=>true
def szStar:Size→Bool
 | .next=>true
 | .arg _=>true
 | _=>false
def szNum:Size→Nat
 | .is n=>n
 | _=>0
def szArg:Size→Nat
 | .arg n=>n
 | _=>0
def AmG (Ca:Addr) (H:Hp) (x:Addr) (s:Size) (g:Nat):Prop:=AmAt Ca H x (szPres s) (szStar s) (szNum s) g
theorem AmS.g {Ca:Addr} {H:Hp} {x:Addr} {s:Size} (h:AmS Ca H x s):AmG Ca H x s (szArg s):=by cases s<;>exact h
def dirF (place size:Int) (bn:Bool) (arg:Int) (fl wd pr:Addr) (ln:Str) (cv:Int):List (Str×V):=
 [("place",.int place),("size",.int size),("by_number",.bl bn),("argument",.int arg),("flags",.ref fl),("width",.ref wd),("precision",.ref pr),("length",.str ln),("conversion",.int cv)]
def Keep (N:Addr→Prop) (H H':Hp):Prop:=∀b o,N b→H b=some o→H' b=some o
theorem Same.keep {N:Addr→Prop} {H H1:Hp} (x:Same H H1):Keep N H H1:=fun b o _ h=>x b o h
theorem But.keep {N:Addr→Prop} {a:Addr} {H H1:Hp} (x:But a H H1) (n:¬N a):Keep N H H1:=fun b o nb h=>x b o h fun z=>n (z▸nb)
def DirG (Cd Ca:Addr) (N:Addr→Prop) (H:Hp) (x:Addr) (d:Fc.Dir) (place size arg wa pa:Nat):Prop:=N x∧∃dx fl w p,N fl∧N w∧N p∧w≠p∧
 H x=some (.ins Cd dx (dirF place size d.pos.isSome arg fl w p (lenStr d.len) (convByte d.conv d.i)))∧H fl=some (.lst (d.flags.map vb))∧AmG Ca H w d.width wa∧AmG Ca H p d.prec pa
theorem AmG.keep {Ca:Addr} {N:Addr→Prop} {H H':Hp} {x:Addr} {s:Size} {g:Nat} (h:AmG Ca H x s g) (n:N x) (k:Keep N H H'):AmG Ca H' x s g:=let ⟨dx,e⟩:=h;⟨dx,k _ _ n e⟩
theorem DirG.keep {Cd Ca:Addr} {N:Addr→Prop} {H H':Hp} {x:Addr} {d:Fc.Dir} {place size arg wa pa:Nat} (h:DirG Cd Ca N H x d place size arg wa pa) (k:Keep N H H'):DirG Cd Ca N H' x d place size arg wa pa:=by
 obtain ⟨n,dx,fl,w,p,n1,n2,n3,ne,e1,e2,e3,e4⟩:=h
 exact ⟨n,dx,fl,w,p,n1,n2,n3,ne,k _ _ n e1,k _ _ n1 e2,e3.keep n2 k,e4.keep n3 k⟩
theorem DirG.sub {Cd Ca:Addr} {N N':Addr→Prop} {H:Hp} {x:Addr} {d:Fc.Dir} {place size arg wa pa:Nat} (h:DirG Cd Ca N H x d place size arg wa pa) (k:∀b,N b→N' b):DirG Cd Ca N' H x d place size arg wa pa:=by
 obtain ⟨n,dx,fl,w,p,n1,n2,n3,ne,e1,e2,e3,e4⟩:=h
 exact ⟨k _ n,dx,fl,w,p,k _ n1,k _ n2,k _ n3,ne,e1,e2,e3,e4⟩
structure TDr (K:PySem.W.Frag) (C:Addr):Prop where
 cl:Cls K C
 nPlace:NoAttr K C "place"
 nSize:NoAttr K C "size"
 nBy:NoAttr K C "by_number"
 nArg:NoAttr K C "argument"
 nFl:NoAttr K C "flags"
 nW:NoAttr K C "width"
 nP:NoAttr K C "precision"
 nLen:NoAttr K C "length"
 nCv:NoAttr K C "conversion"
def spDirInit (Cd:Addr):Sp:=fun vs H Q _=>∃(x dx:Addr) (p:Nat),vs=[.ref x,.int p]∧H x=some (.ins Cd dx [])∧∀dd fl w pr H',H' x=some (.ins Cd dd (dirF p 0 false 0 fl w pr "" 0))→But x H H'→Q .non H'
def spScanDir (Cd Ca C wf:Addr):Sp:=fun vs H Q E=>∃(a rl:Addr) (p:Nat) (bs b:Bytes),vs=[.ref a]∧ScAt C H a rl p (p + 1)∧p + 1≤bs.length∧bs.drop (p + 1)=b∧RowAt H rl bs∧bs.length≤1000∧
 (∀d r,scanDir b=some (d,r)→∀x H',DirG Cd Ca (fun y=>H y=none) H' x d p (1 + (b.length - r.length)) (d.pos.getD 0) (szArg d.width) (szArg d.prec)→But a H H'→Q (.ref x) H')∧(scanDir b=none→Wrong wf p a H E)
theorem ScOn.upd {C:Addr} {H:Hp} {a rl x:Addr} {p:Nat} {bs b:Bytes} {o:HO} (h:ScOn C H a rl p bs b) (ax:a≠x):ScOn C (upd H x o) a rl p bs b:=by
 obtain ⟨k,⟨dx,h1⟩,h2,h3⟩:=h
 exact ⟨k,⟨dx,by rw [upd_ne ax];exact h1⟩,h2,h3⟩
theorem But.free {a:Addr} {H H1:Hp} (b:But a H H1) {l:Addr} (h:H1 l=none) (hl:a≠l):H l=none:=by
 cases hx:H l with
 | none=>rfl
 | some o=>rw [b l o hx hl.symm] at h;cases h
section
variable {P:Program} {w:World} {K:PySem.W.Frag} {mg:Str→Option Value} {base:Heap}
theorem ok_Directive_init {f Cd Ca:Addr} {fd:FuncData} (F:Fun K "__init__" "Directive.__init__" s_Directive_init f fd) (T:TDr K Cd) (cAm:CalC P w K mg base Ca "Amount" ["self"] 1 (spAmInit Ca)):FnOk P w K mg base CX0 3 f fd ["self","place"] (spDirInit Cd):=by
 refine F.ok sc_Directive_init (fun vs H Q E h=>?_) (fun cdv A outer s H vs Q E hr h=>?_)
 ·obtain ⟨x,dx,p,rfl,_⟩:=h
  rfl
 ·obtain ⟨x,dx,p,rfl,hx,k⟩:=h
  refine ⟨_,pss_cons (ps_fld (pv 0) (pv 1) rfl) (pss_cons (ps_fld (pv 0) pe_int rfl) (pss_cons (ps_fld (pv 0) pe_bl rfl) (pss_cons (ps_fld (pv 0) pe_int rfl) (pss_cons (ps_fld (pv 0) (pe_lst pa_nil) rfl)
   (pss_cons (ps_fld (pv 0) (pe_calc0 cAm hr) rfl) (pss_cons (ps_fld (pv 0) (pe_calc0 cAm hr) rfl) (pss_cons (ps_fld (pv 0) pe_str rfl) (pss_one (ps_fld (pv 0) pe_int rfl))))))))),?_⟩
  refine ⟨_,rfl,_,rfl,x,Cd,dx,_,rfl,hx,T.cl,T.nPlace,(by show 0 < 1000;decide),?_⟩
  refine ⟨_,rfl,x,Cd,dx,_,rfl,upd_same,T.cl,T.nSize,(by show 1 < 1000;decide),?_⟩
  refine ⟨_,rfl,x,Cd,dx,_,rfl,upd_same,T.cl,T.nBy,(by show 2 < 1000;decide),?_⟩
  refine ⟨_,rfl,x,Cd,dx,_,rfl,upd_same,T.cl,T.nArg,(by show 3 < 1000;decide),?_⟩
  generalize hH1:upd (upd (upd (upd H x _) x _) x _) x _=H1
  have b1:But x H H1:=fun b o hb hn=>by rw [←hH1,upd_ne hn,upd_ne hn,upd_ne hn,upd_ne hn];exact hb
  have hx1:H1 x=some (.ins Cd dx [("place",.int p),("size",.int 0),("by_number",.bl false),("argument",.int 0)]):=by rw [←hH1,upd_same];rfl
  refine ⟨Nat.zero_le _,fun fl hfl=>⟨_,rfl,x,Cd,dx,_,rfl,(by rw [upd_ne (ne_of_none hx1 hfl)];exact hx1),T.cl,T.nFl,(by show 4 < 1000;decide),?_⟩⟩
  generalize hH2:upd (upd H1 fl _) x _=H2
  have b2:But x H1 H2:=fun b o hb hn=>by rw [←hH2,upd_ne hn,upd_ne (ne_of_none hb hfl)];exact hb
  have hx2:H2 x=some (.ins Cd dx [("place",.int p),("size",.int 0),("by_number",.bl false),("argument",.int 0),("flags",.ref fl)]):=by rw [←hH2,upd_same];rfl
  intro wd dw nw ndw nwd
  refine ⟨wd,dw,rfl,upd_same,fun H3 _ k3=>⟨rfl,?_⟩⟩
  have s3:Same H2 H3:=amNew nw ndw k3
  refine ⟨_,rfl,x,Cd,dx,_,rfl,s3 _ _ hx2,T.cl,T.nW,(by show 5 < 1000;decide),?_⟩
  intro pr dp np ndp npd
  refine ⟨pr,dp,rfl,upd_same,fun H4 _ k4=>⟨rfl,?_⟩⟩
  have s4:=amNew np ndp k4
  refine ⟨_,rfl,x,Cd,dx,_,rfl,s4 _ _ upd_same,T.cl,T.nP,(by show 6 < 1000;decide),?_⟩
  refine ⟨_,rfl,x,Cd,dx,_,rfl,upd_same,T.cl,T.nLen,(by show 7 < 1000;decide),?_⟩
  refine ⟨_,rfl,x,Cd,dx,_,rfl,upd_same,T.cl,T.nCv,(by show 8 < 1000;decide),?_⟩
  refine k dx fl wd pr _ upd_same fun b o hb hn=>?_
  rw [upd_ne hn,upd_ne hn,upd_ne hn]
  refine s4 b o ?_
  rw [upd_ne hn]
  exact s3 b o (b2 b o (b1 b o hb hn) hn)
theorem ok_scan_directive {f Cd Ca C wf:Addr} {fd:FuncData} (F:Fun K "scan_directive" "scan_directive" s_scan_directive f fd) (T:TSc K mg C) (TD:TDr K Cd) (cDir:CalC P w K mg base Cd "Directive" ["self","place"] 3 (spDirInit Cd))
 (cNext:Cal P w K mg base CX0 "argument_is_next" ["scanner"] 2 (spArgNext C)) (cArg:Cal P w K mg base (CXe P w) "scan_argument" ["scanner"] 5 (spScanArg C wf)) (cFl:Cal P w K mg base (CXe P w) "scan_flags" ["scanner"] 4 (spScanFlags C wf))
 (cW:Cal P w K mg base (CXe P w) "scan_width" ["scanner"] 7 (spScanWidth Ca C wf)) (cP:Cal P w K mg base (CXe P w) "scan_precision" ["scanner"] 7 (spScanPrec Ca C wf)) (cL:Cal P w K mg base CX0 "scan_length" ["scanner"] 3 (spScanLen C))
 (cC:Cal P w K mg base (CXe P w) "scan_conversion" ["scanner"] 4 (spScanConv C wf)):FnOk P w K mg base (CXe P w) 8 f fd ["scanner"] (spScanDir Cd Ca C wf):=by
 refine F.okx sc_scan_directive (fun vs H Q E h=>?_) (fun cdv A outer s H vs Q E hr h=>?_)
 ·obtain ⟨a,rl,p,bs,b,rfl,_⟩:=h
  rfl
 ·obtain ⟨a,rl,p,bs,b,rfl,⟨dx,ha⟩,hp,eb,hrow,hbs,qo,qe⟩:=h
  have hr2:Room 2 _:=hr.mono (by decide)
  have hr3:Room 3 _:=hr.mono (by decide)
  have hr4:Room 4 _:=hr.mono (by decide)
  have hr5:Room 5 _:=hr.mono (by decide)
  refine ⟨_,pss_cons (ps_set (i:=1) sc_scan_directive.nd rfl (Or.inl rfl) (pe_calc cDir hr4 (pa_cons (pe_fld (pv 0) rfl) pa_nil)))
   (pss_cons (ps_if (pt_val (pe_cal cNext hr2 pass0 (pa_cons (pv 0) pa_nil))) (pss_cons (ps_fld (pv 1) pe_bl rfl) (pss_one (ps_fld (pv 1) (pe_cal cArg hr5 leave_ok.passes (pa_cons (pv 0) pa_nil)) rfl))) pss_nil).mono
   (pss_cons (ps_fld (pv 1) (pe_cal cFl hr4 leave_ok.passes (pa_cons (pv 0) pa_nil)) rfl)
   (pss_cons (ps_fld (pv 1) (pe_cal cW hr leave_ok.passes (pa_cons (pv 0) pa_nil)) rfl)
   (pss_cons (ps_fld (pv 1) (pe_cal cP hr leave_ok.passes (pa_cons (pv 0) pa_nil)) rfl)
   (pss_cons (ps_fld (pv 1) (pe_cal cL hr3 pass0 (pa_cons (pv 0) pa_nil)) rfl)
   (pss_cons (ps_fld (pv 1) (pe_cal cC hr4 leave_ok.passes (pa_cons (pv 0) pa_nil)) rfl)
   (pss_cons (ps_fld (pv 1) (pe_op op_sub (pe_fld (pv 0) rfl) (pe_fld (pv 0) rfl)) rfl)
   (pss_one (ps_ret (pv 1)))))))))),?_⟩
  refine ⟨_,rfl,a,C,dx,_,_,rfl,ha,T.cl,T.nPlace,rfl,fun x dxx nx nd nxd=>?_⟩
  refine ⟨x,dxx,p,rfl,upd_same,fun dd fl0 w0 p0 H1 hx1 k1=>⟨rfl,?_⟩⟩
  have s1:Same H H1:=amNew nx nd k1
  have ax:a≠x:=ne_of_none ha nx
  have rx:rl≠x:=ne_of_none hrow nx
  have on1:ScOn C H1 a rl p bs b:=⟨p + 1,⟨dx,s1 _ _ ha⟩,hp,eb⟩
  have row1:RowAt H1 rl bs:=s1 _ _ hrow
  have sd:scanDir b=(scanPos b).bind fun z=>(scanFlags [] z.2).bind fun g=>(scanWidth g.2).bind fun w=>(scanPrec w.2).bind fun q=>(scanEnd q.2).map fun e=>(⟨z.1,g.1,w.1,q.1,e.1.1,e.1.2.1,e.1.2.2⟩,e.2):=rfl
  refine ⟨fun σ' H'=>σ'=[some (.ref a),some (.ref x)]∧∃z r1,scanPos b=some (z,r1)∧H' x=some (.ins Cd dd (dirF p 0 z.isSome (z.getD 0:Nat) fl0 w0 p0 "" 0))∧ScOn C H' a rl p bs r1∧But a H H',?_,?_⟩
  ·refine ⟨_,rfl,a,rl,p,bs,b,rfl,on1,row1,_,rfl,?_⟩
   have e0:scanPos b=if argNext b=true then (scanArg b).map fun x=>(some x.1,x.2) else some (none,b):=rfl
   refine ite2 (fun h=>?_) fun h=>?_
   ·refine ⟨_,rfl,x,Cd,dd,_,rfl,hx1,TD.cl,TD.nBy,(by show 9 < 1000;decide),?_⟩
    refine ⟨_,rfl,a,rl,p,bs,b,rfl,on1.upd ax,(by unfold RowAt;rw [upd_ne rx];exact row1),fun n r e H2 on2 b2=>?_,fun e=>(qe ?_).but (fun b o hb hn=>?_)⟩
    ·refine ⟨_,rfl,x,Cd,dd,_,rfl,b2 _ _ upd_same ax.symm,TD.cl,TD.nArg,(by show 9 < 1000;decide),rfl,some n,r,?_,upd_same,on2.upd ax,fun b o hb hn=>?_⟩
     ·rw [e0,if_pos h,e];rfl
     ·have hbx:b≠x:=ne_of_none hb nx
      rw [upd_ne hbx]
      exact b2 b o (by rw [upd_ne hbx];exact s1 b o hb) hn
    ·rw [sd,e0,if_pos h,e];rfl
    ·rw [upd_ne (ne_of_none hb nx)];exact s1 b o hb
   ·exact ⟨rfl,none,b,by rw [e0,if_neg h],hx1,on1,Same.but s1⟩
  ·rintro σ2 H2 ⟨rfl,z,r1,ez,hx2,on2,b2⟩
   have row2:RowAt H2 rl bs:=hrow.but ⟨dx,ha⟩ b2
   refine ⟨_,rfl,a,rl,p,bs,r1,rfl,on2,row2,hbs,fun g r2 eg l H3 nl hl3 on3 b3=>?_,fun e=>(qe (by rw [sd,ez];show (scanFlags [] r1).bind _=none;rw [e];rfl)).but b2⟩
   have hx3:=b3 _ _ hx2 ax.symm
   have lx:l≠x:=fun z=>by rw [z,hx2] at nl;cases nl
   refine ⟨_,rfl,x,Cd,dd,_,rfl,hx3,TD.cl,TD.nFl,(by show 9 < 1000;decide),?_⟩
   have B3:But a H (upd H3 x (.ins Cd dd (putF "flags" (.ref l) (dirF p 0 z.isSome (z.getD 0:Nat) fl0 w0 p0 "" 0)))):=fun b o hb hn=>by rw [upd_ne (ne_of_none hb nx)];exact b3 b o (b2 b o hb hn) hn
   refine ⟨_,rfl,a,rl,p,bs,r2,rfl,on3.upd ax,hrow.but ⟨dx,ha⟩ B3,fun sw r3 ew wd H4 nw am4 on4 b4=>?_,fun e=>(qe (by rw [sd,ez];show (scanFlags [] r1).bind _=none;rw [eg];show (scanWidth r2).bind _=none;rw [e];rfl)).but B3⟩
   have hx4:=b4 _ _ upd_same ax.symm
   have hl4:H4 l=some (.lst (g.map vb)):=b4 _ _ (by rw [upd_ne lx];exact hl3) (fun z=>by
    obtain ⟨_,⟨_,q⟩,_⟩:=on3
    rw [z] at hl3
    rw [q] at hl3
    cases hl3)
   have wx:wd≠x:=fun z=>by rw [z,upd_same] at nw;cases nw
   refine ⟨_,rfl,x,Cd,dd,_,rfl,hx4,TD.cl,TD.nW,(by show 9 < 1000;decide),?_⟩
   generalize hH5:upd H4 x _=H5
   have hx5:H5 x=some (.ins Cd dd (dirF p 0 z.isSome (z.getD 0:Nat) l wd p0 "" 0)):=by rw [←hH5,upd_same];rfl
   have B5:But a H H5:=fun b o hb hn=>by rw [←hH5,upd_ne (ne_of_none hb nx)];exact b4 b o (B3 b o hb hn) hn
   have on5:ScOn C H5 a rl p bs r3:=by rw [←hH5];exact on4.upd ax
   have hl5:H5 l=some (.lst (g.map vb)):=by rw [←hH5,upd_ne lx];exact hl4
   have am5:AmG Ca H5 wd sw (szArg sw):=let ⟨dm,q⟩:=am4.g;⟨dm,by rw [←hH5,upd_ne wx];exact q⟩
   refine ⟨_,rfl,a,rl,p,bs,r3,rfl,on5,hrow.but ⟨dx,ha⟩ B5,fun sq r4 eq pr H6 np am6 on6 b6=>?_,fun e=>(qe (by rw [sd,ez];show (scanFlags [] r1).bind _=none;rw [eg];show (scanWidth r2).bind _=none;rw [ew];show (scanPrec r3).bind _=none;rw [e];rfl)).but B5⟩
   have onA:∀{H':Hp} {r:Bytes} {y:Addr},ScOn C H' a rl p bs r→H' y=none→a≠y:=fun ⟨_,⟨_,q⟩,_⟩ n=>ne_of_none q n
   have al:a≠l:=onA on2 nl
   have aw:a≠wd:=onA (on3.upd ax) nw
   have ap:a≠pr:=onA on5 np
   have px:pr≠x:=fun z=>by rw [z,hx5] at np;cases np
   have pw:wd≠pr:=fun z=>by obtain ⟨_,q⟩:=am5;rw [z] at q;rw [q] at np;cases np
   have pl:l≠pr:=fun z=>by rw [z] at hl5;rw [hl5] at np;cases np
   refine ⟨_,rfl,x,Cd,dd,_,rfl,b6 _ _ hx5 ax.symm,TD.cl,TD.nP,(by show 9 < 1000;decide),?_⟩
   generalize hH7:upd H6 x _=H7
   have hx7:H7 x=some (.ins Cd dd (dirF p 0 z.isSome (z.getD 0:Nat) l wd pr "" 0)):=by rw [←hH7,upd_same];rfl
   have B7:But a H H7:=fun b o hb hn=>by rw [←hH7,upd_ne (ne_of_none hb nx)];exact b6 b o (B5 b o hb hn) hn
   have on7:ScOn C H7 a rl p bs r4:=by rw [←hH7];exact on6.upd ax
   have hl7:H7 l=some (.lst (g.map vb)):=by rw [←hH7,upd_ne (ne_of hl5 hx5 (by intro q;cases q))];exact b6 _ _ hl5 al.symm
   have am7:AmG Ca H7 wd sw (szArg sw):=let ⟨dm,q⟩:=am5;⟨dm,by rw [←hH7,upd_ne wx];exact b6 _ _ q aw.symm⟩
   have ap7:AmG Ca H7 pr sq (szArg sq):=let ⟨dm,q⟩:=am6.g;⟨dm,by rw [←hH7,upd_ne px];exact q⟩
   have sd2:scanDir b=(convIn (lenIn r4).2).map fun c=>(⟨z,g,sw,sq,(lenIn r4).1,c.1,c.2.1⟩,c.2.2):=by
    rw [sd,ez]
    show (scanFlags [] r1).bind _=_
    rw [eg]
    show (scanWidth r2).bind _=_
    rw [ew]
    show (scanPrec r3).bind _=_
    rw [eq]
    show (scanEnd r4).map _=_
    unfold scanEnd
    cases convIn (lenIn r4).2<;>rfl
   refine ⟨_,rfl,a,rl,p,bs,r4,rfl,on7,hrow.but ⟨dx,ha⟩ B7,fun H8 on8 b8=>?_⟩
   refine ⟨_,rfl,x,Cd,dd,_,rfl,b8 _ _ hx7 ax.symm,TD.cl,TD.nLen,(by show 9 < 1000;decide),?_⟩
   have B8:But a H (upd H8 x (.ins Cd dd (putF "length" (.str (lenStr (lenIn r4).1)) (dirF p 0 z.isSome (z.getD 0:Nat) l wd pr "" 0)))):=fun b o hb hn=>by rw [upd_ne (ne_of_none hb nx)];exact b8 b o (B7 b o hb hn) hn
   refine ⟨_,rfl,a,rl,p,bs,(lenIn r4).2,rfl,on8.upd ax,hrow.but ⟨dx,ha⟩ B8,fun c i r5 ec H9 on9 b9=>?_,fun e=>(qe (by rw [sd2,e];rfl)).but B8⟩
   refine ⟨_,rfl,x,Cd,dd,_,rfl,b9 _ _ upd_same ax.symm,TD.cl,TD.nCv,(by show 9 < 1000;decide),?_⟩
   obtain ⟨k5,⟨dx5,ha5⟩,hk5,e5⟩:=on9
   refine ⟨_,rfl,a,C,dx5,_,_,rfl,(by rw [upd_ne ax];exact ha5),T.cl,T.nAt,rfl,_,rfl,a,C,dx5,_,_,rfl,(by rw [upd_ne ax];exact ha5),T.cl,T.nPlace,rfl,_,_,rfl,rfl,_,rfl,x,Cd,dd,_,rfl,upd_same,TD.cl,TD.nSize,(by show 9 < 1000;decide),?_⟩
   refine ⟨_,rfl,qo _ r5 (by rw [sd2,ec];rfl) x _ ?_ ?_⟩
   ·refine ⟨nx,dd,l,wd,pr,b2.free nl al,B3.free nw aw,B5.free np ap,pw,?_,?_,?_,?_⟩
    ·rw [upd_same]
     have e6:((k5:Int) - (p:Int))=((1 + (b.length - r5.length):Nat):Int):=by
      have l1:b.length=bs.length - (p + 1):=by rw [←eb,List.length_drop]
      have l2:r5.length=bs.length - k5:=by rw [←e5,List.length_drop]
      have l3:=(spell_len (scanDir_some (show scanDir b=some (_,r5) by rw [sd2,ec];rfl)).1).2
      omega
     rw [←e6]
     rfl
    ·rw [upd_ne lx,upd_ne lx]
     refine b9 _ _ ?_ al.symm
     rw [upd_ne lx]
     exact b8 _ _ hl7 al.symm
    ·obtain ⟨dm,q⟩:=am7
     refine ⟨dm,?_⟩
     rw [upd_ne wx,upd_ne wx]
     refine b9 _ _ ?_ aw.symm
     rw [upd_ne wx]
     exact b8 _ _ q aw.symm
    ·obtain ⟨dm,q⟩:=ap7
     refine ⟨dm,?_⟩
     rw [upd_ne px,upd_ne px]
     refine b9 _ _ ?_ ap.symm
     rw [upd_ne px]
     exact b8 _ _ q ap.symm
   ·intro b o hb hn
    rw [upd_ne (ne_of_none hb nx),upd_ne (ne_of_none hb nx)]
    exact b9 b o (B8 b o hb hn) hn
end
end Fm
namespace Fm
open PySem PySem.Spec PyProof.Rows L2
open Fc (Bytes Size Len Conv)
def isLongL:Len→Bool
 | .l=>true
 | .ll=>true
 | .j=>true
 | .z=>true
 | _=>false
def isUns:Conv→Bool
 | .unsigned=>true
 | .octal=>true
 | .hex=>true
 | .HEX=>true
 | _=>false
def isSig:Conv→Bool
 | .signed=>true
 | _=>false
abbrev LG:List V:=[.str "l",.str "ll",.str "j",.str "z"]
abbrev UN:List V:=[.int 117,.int 111,.int 120,.int 88]
abbrev SG:List V:=[.int 100,.int 105]
theorem inV_long (L:Len):inV (.str (lenStr L)) LG=isLongL L:=by cases L<;>decide +kernel
theorem inV_uns (c:Conv) (i:Bool):inV (.int (convByte c i)) UN=isUns c:=by cases c<;>cases i<;>decide +kernel
theorem inV_sig (c:Conv) (i:Bool):inV (.int (convByte c i)) SG=isSig c:=by cases c<;>cases i<;>decide +kernel
theorem cv_text (c:Conv) (i:Bool):decide (V.int (convByte c i)=V.int 115)=decide (c=.text):=by cases c<;>cases i<;>decide +kernel
theorem cv_char (c:Conv) (i:Bool):decide (V.int (convByte c i)=V.int 99)=decide (c=.char):=by cases c<;>cases i<;>decide +kernel
theorem typeOf_eq (d:Fc.Dir):Fc.typeOf d=if d.conv=.text then 5 else if isUns d.conv=true then (if isLongL d.len=true then 4 else 2) else if isSig d.conv=true∧isLongL d.len=true then 3 else 1:=by
 obtain ⟨pos,fl,wd,pr,ln,cv,i⟩:=d
 unfold Fc.typeOf
 cases cv<;>cases ln<;>rfl
structure TKd (K:PySem.W.Frag) (mg:Str→Option Value):Prop where
 LS:GI mg "LETTER_S" 115
 LONG:GT K mg "LONG_LENGTHS" LG
 UNS:GT K mg "UNSIGNED" UN
 SIG:GT K mg "SIGNED" SG
 TEXT:GI mg "TEXT" 5
 U64:GI mg "UNSIGNED_64" 4
 U32:GI mg "UNSIGNED_32" 2
 S64:GI mg "SIGNED_64" 3
 S32:GI mg "SIGNED_32" 1
def DirX (Cd Ca:Addr) (H:Hp) (x dx fl w p:Addr) (d:Fc.Dir) (place size arg wa pa:Nat):Prop:=
 H x=some (.ins Cd dx (dirF place size d.pos.isSome arg fl w p (lenStr d.len) (convByte d.conv d.i)))∧H fl=some (.lst (d.flags.map vb))∧AmG Ca H w d.width wa∧AmG Ca H p d.prec pa
theorem DirX.same {Cd Ca:Addr} {H H':Hp} {x dx fl w p:Addr} {d:Fc.Dir} {place size arg wa pa:Nat} (h:DirX Cd Ca H x dx fl w p d place size arg wa pa) (k:Same H H'):DirX Cd Ca H' x dx fl w p d place size arg wa pa:=by
 obtain ⟨e1,e2,⟨d3,e3⟩,⟨d4,e4⟩⟩:=h
 exact ⟨k _ _ e1,k _ _ e2,⟨d3,k _ _ e3⟩,⟨d4,k _ _ e4⟩⟩
def starsOf (d:Fc.Dir) (w p:Addr):List Addr:=(if szStar d.width=true then [w] else [])++(if szStar d.prec=true then [p] else [])
def pairsOf (d:Fc.Dir) (arg wa pa:Nat):List (Nat×Nat):=(if szStar d.width=true then [(wa,1)] else [])++(if szStar d.prec=true then [(pa,1)] else [])++[(arg,Fc.typeOf d)]
def TupAt (H:Hp) (t:Addr) (x:Nat×Nat):Prop:=H t=some (.tup [.int x.1,.int x.2])
def spKind (Cd Ca:Addr):Sp:=fun vs H Q _=>∃x dx fl w p d place size arg wa pa,vs=[.ref x]∧DirX Cd Ca H x dx fl w p d place size arg wa pa∧Q (.int (Fc.typeOf d)) H
def spStars (Cd Ca:Addr):Sp:=fun vs H Q _=>∃x dx fl w p d place size arg wa pa,vs=[.ref x]∧DirX Cd Ca H x dx fl w p d place size arg wa pa∧∀l H',H l=none→H' l=some (.lst ((starsOf d w p).map V.ref))→Same H H'→Q (.ref l) H'
def spPairs (Cd Ca:Addr):Sp:=fun vs H Q _=>∃x dx fl w p d place size arg wa pa,vs=[.ref x]∧DirX Cd Ca H x dx fl w p d place size arg wa pa∧
 ∀l ts H',H l=none→H' l=some (.lst (ts.map V.ref))→Paired (TupAt H') ts (pairsOf d arg wa pa)→(∀t∈ts,H t=none)→Same H H'→Q (.ref l) H'
theorem pgetL {α β:Type} {F:α→β→Prop}:∀{xs:List α} {ys:List β} {i:Nat} {x:α},Paired F xs ys→xs[i]?=some x→∃y,ys[i]?=some y∧F x y
 | _,_,i,_,.nil,e=>by simp at e
 | _,_,0,_,.cons r _,e=>by simp at e;subst e;exact ⟨_,rfl,r⟩
 | _,_,i + 1,x,.cons _ t,e=>by
  obtain ⟨u,h1,h2⟩:=pgetL (i:=i) (x:=x) t (by simpa using e)
  exact ⟨u,by simpa using h1,h2⟩
theorem pmono {α β:Type} {F G:α→β→Prop}:∀{xs:List α} {ys:List β},Paired F xs ys→(∀x y,x∈xs→F x y→G x y)→Paired G xs ys
 | _,_,.nil,_=>.nil
 | _,_,.cons r t,h=>.cons (h _ _ List.mem_cons_self r) (pmono t fun x y m q=>h x y (List.mem_cons_of_mem _ m) q)
def starPairs (d:Fc.Dir) (wa pa:Nat):List (Nat×Nat):=(if szStar d.width=true then [(wa,1)] else [])++(if szStar d.prec=true then [(pa,1)] else [])
def StarAt (Ca:Addr) (H:Hp) (z:Addr) (x:Nat×Nat):Prop:=x.2=1∧∃dm a b n,H z=some (.ins Ca dm (amF a b n x.1))
theorem DirX.stars {Cd Ca:Addr} {H:Hp} {x dx fl w p:Addr} {d:Fc.Dir} {place size arg wa pa:Nat} (h:DirX Cd Ca H x dx fl w p d place size arg wa pa):Paired (StarAt Ca H) (starsOf d w p) (starPairs d wa pa):=by
 obtain ⟨_,_,⟨d1,h1⟩,⟨d2,h2⟩⟩:=h
 unfold starsOf starPairs
 have a1:StarAt Ca H w (wa,1):=⟨rfl,d1,_,_,_,h1⟩
 have a2:StarAt Ca H p (pa,1):=⟨rfl,d2,_,_,_,h2⟩
 cases szStar d.width<;>cases szStar d.prec
 ·exact .nil
 ·exact .cons a2 .nil
 ·exact .cons a1 .nil
 ·exact .cons a1 (.cons a2 .nil)
theorem starsOf_len (d:Fc.Dir) (w p:Addr):(starsOf d w p).length≤2:=by unfold starsOf;cases szStar d.width<;>cases szStar d.prec<;>simp
theorem take_snoc {α:Type} {l:List α} {i:Nat} {x:α} (h:l[i]?=some x):l.take (i + 1)=l.take i++[x]:=by
 rw [List.take_succ,h];rfl
section
variable {P:Program} {w:World} {K:PySem.W.Frag} {mg:Str→Option Value} {base:Heap}
theorem ok_own_kind {f Cd Ca:Addr} {fd:FuncData} (F:Fun K "own_kind" "own_kind" s_own_kind f fd) (T:TDr K Cd) (S:TKd K mg):FnOk P w K mg base CX0 1 f fd ["directive"] (spKind Cd Ca):=by
 refine F.ok sc_own_kind (fun vs H Q E h=>?_) (fun cdv A outer s H vs Q E hr h=>?_)
 ·obtain ⟨x,dx,fl,wd,pr,d,place,size,arg,wa,pa,rfl,_⟩:=h
  rfl
 ·obtain ⟨x,dx,fl,wd,pr,d,place,size,arg,wa,pa,rfl,⟨hx,_,_,_⟩,q⟩:=h
  refine ⟨_,pss_cons (ps_set (i:=1) sc_own_kind.nd rfl (Or.inl rfl) (pe_cmpR op_in_seq (pe_fld (pv 0) rfl) (pe_gt S.LONG) (by with_unfolding_all rfl)))
   (pss_cons (ps_if (pt_cmpR op_eq (pe_fld (pv 0) rfl) (pe_gi S.LS) (nomark _)) (pss_one (ps_ret (pe_gi S.TEXT))) pss_nil)
   (pss_cons (ps_if (pt_cmpR op_in_seq (pe_fld (pv 0) rfl) (pe_gt S.UNS) (by with_unfolding_all rfl)) (pss_one (ps_ret (pe_ifExp (pt_val (pv 1)) (pe_gi S.U64) (pe_gi S.U32)))) pss_nil)
   (pss_cons (ps_if (pw_and (pt_cmpR op_in_seq (pe_fld (pv 0) rfl) (pe_gt S.SIG) (by with_unfolding_all rfl)) (pw_and1 (pt_val (pv 1)))).pt (pss_one (ps_ret (pe_gi S.S64))) pss_nil)
   (pss_one (ps_ret (pe_gi S.S32)))))),?_⟩
  rw [typeOf_eq] at q
  refine ⟨_,rfl,x,Cd,dx,_,_,rfl,hx,T.cl,T.nLen,rfl,fun g hg=>⟨g,_,rfl,.inr (hg _),rfl,by decide +kernel,?_⟩⟩
  show tSeq _ _ _ [some (V.ref x),some (V.bl (inV (.str (lenStr d.len)) LG))] H
  rw [inV_long]
  refine ⟨_,rfl,x,Cd,dx,_,_,rfl,hx,T.cl,T.nCv,rfl,rfl,_,rfl,?_⟩
  refine iteB (cv_text _ _) ?_
  by_cases h1:d.conv=.text
  ·rw [if_pos h1] at q
   rw [decide_eq_true h1]
   exact iteT q
  ·rw [if_neg h1] at q
   rw [decide_eq_false h1]
   refine iteF ⟨_,rfl,x,Cd,dx,_,_,rfl,hx,T.cl,T.nCv,rfl,fun g hg=>⟨g,_,rfl,.inr (hg _),rfl,by decide,_,rfl,?_⟩⟩
   refine iteB (inV_uns _ _) ?_
   refine ite2 (fun h2=>?_) fun h2=>?_
   ·rw [if_pos h2] at q
    refine ⟨_,rfl,_,rfl,?_⟩
    refine ite2 (fun h3=>?_) fun h3=>?_
    ·rw [if_pos h3] at q;exact q
    ·rw [if_neg h3] at q;exact q
   ·rw [if_neg h2] at q
    refine ⟨_,rfl,x,Cd,dx,_,_,rfl,hx,T.cl,T.nCv,rfl,fun g hg=>⟨g,_,rfl,.inr (hg _),rfl,by decide,_,rfl,?_⟩⟩
    refine iteB (inV_sig _ _) ?_
    refine ite2 (fun h3=>?_) fun h3=>?_
    ·refine ⟨_,rfl,_,rfl,?_⟩
     refine ite2 (fun h4=>?_) fun h4=>?_
     ·rw [if_pos ⟨h3,h4⟩] at q;exact q
     ·rw [if_neg fun z=>h4 z.2] at q;exact q
    ·rw [if_neg fun z=>h3 z.1] at q
     exact iteF q
theorem ok_stars {f Cd Ca:Addr} {fd:FuncData} (F:Fun K "stars" "stars" s_stars f fd) (T:TDr K Cd) (TA:TAm K Ca):FnOk P w K mg base CX0 1 f fd ["directive"] (spStars Cd Ca):=by
 refine F.ok sc_stars (fun vs H Q E h=>?_) (fun cdv A outer s H vs Q E hr h=>?_)
 ·obtain ⟨x,dx,fl,wd,pr,d,place,size,arg,wa,pa,rfl,_⟩:=h
  rfl
 ·obtain ⟨x,dx,fl,wd,pr,d,place,size,arg,wa,pa,rfl,⟨hx,_,⟨d1,hw⟩,⟨d2,hp⟩⟩,q⟩:=h
  refine ⟨_,pss_one (ps_ret (pe_lc rfl sc_stars.nd (pi_tup (pe_tup (pa_cons (pe_fld (pv 0) rfl) (pa_cons (pe_fld (pv 0) rfl) pa_nil)))) (own:=[("amount",1)]) (tt:=tB (tFld K (tVar 1) "star")) (blkOk_by rfl)
   (fun _ _ _ _ _=>pg_name (i:=1) sc_stars.nd rfl (Or.inl rfl)) (fun _ _ _ _ _=>pts_one (pt_val (pe_fld (pv 1) rfl))) (fun _ _ _ _ _=>pv 1))),?_⟩
  refine ⟨_,rfl,x,Cd,dx,_,_,rfl,hx,T.cl,T.nW,rfl,_,rfl,x,Cd,dx,_,_,rfl,hx,T.cl,T.nP,rfl,(by show 2≤sizeLine;decide),fun t ht=>⟨t,rfl,⟨_,SqT.of upd_same⟩,fun D hD=>?_⟩⟩
  have tD:t≠D:=ne_of_none upd_same hD
  have D0:H D=none:=by rw [upd_ne tD.symm] at hD;exact hD
  have wD:wd≠D:=ne_of_none hw D0
  have pD:pr≠D:=ne_of_none hp D0
  let acc:Nat→List V:=fun i=>(([(szStar d.width,wd),(szStar d.prec,pr)].take i).filter fun y=>y.1).map fun y=>V.ref y.2
  refine lc_tup (xs:=[.ref wd,.ref pr]) (fun i H'=>H' t=some (.tup [.ref wd,.ref pr])∧H' D=some (.lst (acc i))∧Same H H') ⟨?_,?_,fun b o hb=>?_⟩ (fun i H' _ h=>SqT.of h.1) (fun i y H' hi h=>?_) fun H' h=>?_
  ·rw [upd_ne tD,upd_same]
  ·rw [upd_same];rfl
  ·rw [upd_ne (ne_of_none hb D0),upd_ne (ne_of_none hb ht)];exact hb
  ·obtain ⟨h1,h2,h3⟩:=h
   have fin:∀{z:Addr} {b:Bool},acc (i + 1)=acc i++(if b=true then [V.ref z] else [])→(acc i).length≤2→if b=true then ∃ac,H' D=some (.lst ac)∧ac.length < sizeLine∧(upd H' D (.lst (ac++[V.ref z])) t=some (.tup [.ref wd,.ref pr])∧upd H' D (.lst (ac++[V.ref z])) D=some (.lst (acc (i + 1)))∧Same H (upd H' D (.lst (ac++[V.ref z])))) else (H' t=some (.tup [.ref wd,.ref pr])∧H' D=some (.lst (acc (i + 1)))∧Same H H'):=fun {z b} e le=>by
    cases b with
    | true=>exact ⟨acc i,h2,small1000 (by omega),by rw [upd_ne tD];exact h1,by rw [upd_same,e];rfl,fun b o hb=>by rw [upd_ne (ne_of_none hb D0)];exact h3 b o hb⟩
    | false=>exact ⟨h1,by rw [e];show _=some (HO.lst (acc i++[]));rw [List.append_nil];exact h2,h3⟩
   match i,hi with
   | 0,hi=>
    cases hi
    refine ⟨rfl,_,rfl,wd,Ca,d1,_,_,rfl,h3 _ _ hw,TA.cl,TA.nSt,rfl,_,rfl,?_⟩
    have:=fin (z:=wd) (b:=szStar d.width) (by cases hb:szStar d.width<;>simp [acc,hb]) (by simp [acc])
    refine ite2 (fun hb=>?_) fun hb=>?_
    ·rw [if_pos hb] at this;exact ⟨_,rfl,this⟩
    ·rw [if_neg hb] at this;exact this
   | 1,hi=>
    cases hi
    refine ⟨rfl,_,rfl,pr,Ca,d2,_,_,rfl,h3 _ _ hp,TA.cl,TA.nSt,rfl,_,rfl,?_⟩
    have:=fin (z:=pr) (b:=szStar d.prec) (by cases hb:szStar d.width<;>cases hb2:szStar d.prec<;>simp [acc,hb,hb2]) (by cases hb:szStar d.width<;>simp [acc,hb])
    refine ite2 (fun hb=>?_) fun hb=>?_
    ·rw [if_pos hb] at this;exact ⟨_,rfl,this⟩
    ·rw [if_neg hb] at this;exact this
  ·refine q D H' D0 ?_ h.2.2
   rw [show (HO.lst ((starsOf d wd pr).map V.ref))=HO.lst (acc 2) by unfold starsOf;cases hb:szStar d.width<;>cases hb2:szStar d.prec<;>simp [acc,hb,hb2]]
   exact h.2.1
theorem ok_taken_pairs {f Cd Ca:Addr} {fd:FuncData} (F:Fun K "taken_pairs" "taken_pairs" s_taken_pairs f fd) (T:TDr K Cd) (TA:TAm K Ca) (S:TKd K mg) (cSt:Cal P w K mg base CX0 "stars" ["directive"] 1 (spStars Cd Ca)) (cKd:Cal P w K mg base CX0 "own_kind" ["directive"] 1 (spKind Cd Ca)):
 FnOk P w K mg base CX0 2 f fd ["directive"] (spPairs Cd Ca):=by
 refine F.ok sc_taken_pairs (fun vs H Q E h=>?_) (fun cdv A outer s H vs Q E hr h=>?_)
 ·obtain ⟨x,dx,fl,wd,pr,d,place,size,arg,wa,pa,rfl,_⟩:=h
  rfl
 ·obtain ⟨x,dx,fl,wd,pr,d,place,size,arg,wa,pa,rfl,D0,q⟩:=h
  refine ⟨_,pss_cons (ps_setLc (i:=1) rfl sc_taken_pairs.nd rfl rfl (sw_true rfl rfl rfl rfl) (pi_list (pe_cal cSt hr pass0 (pa_cons (pv 0) pa_nil))) (own:=[("amount",2)]) (te:=tTup (tCons (tFld K (tVar 2) "argument") (tCons (tC (.int 1)) tNil))) (blkOk_by rfl)
   (fun _ _ _ _ _=>pg_name (i:=2) sc_taken_pairs.nd rfl (Or.inl rfl)) (fun _ _ _ _ _=>pts_nil) (fun _ _ _ _ _=>pe_tup (pa_cons (pe_fld (pv 2) rfl) (pa_cons (pe_gi S.S32) pa_nil))))
   (pss_cons (ps_expr (pe_bm PySem.F.plainAttrs_list PySem.F.slot_list_append PySem.F.type_list_append mt_append (pv 1) (pa_cons (pe_tup (pa_cons (pe_fld (pv 0) rfl) (pa_cons (pe_cal cKd hr pass0 (pa_cons (pv 0) pa_nil)) pa_nil))) pa_nil)))
   (pss_one (ps_ret (pv 1)))),?_⟩
  refine ⟨_,rfl,x,dx,fl,wd,pr,d,place,size,arg,wa,pa,rfl,D0,fun l0 H1 n0 hl0 s1=>⟨l0,rfl,⟨_,SqL.of hl0⟩,fun D hD=>?_⟩⟩
  have lD:l0≠D:=ne_of_none hl0 hD
  have HD:H D=none:=Same.free' s1 hD
  have ps:=(D0.same s1).stars
  refine lc_list (xs:=(starsOf d wd pr).map V.ref) (fun i H'=>H' l0=some (.lst ((starsOf d wd pr).map V.ref))∧∃ts:List Addr,H' D=some (.lst (ts.map V.ref))∧Paired (TupAt H') ts ((starPairs d wa pa).take i)∧(∀t∈ts,H t=none)∧Same H1 H')
   ⟨by rw [upd_ne lD];exact hl0,[],by rw [upd_same];rfl,.nil,by simp,fun b o hb=>by rw [upd_ne (ne_of_none hb hD)];exact hb⟩ (fun i H' _ h=>SqL.of h.1) (fun i y H' hi h=>?_) fun H' h=>?_
  ·obtain ⟨h1,ts,h2,h3,h4,h5⟩:=h
   rw [List.getElem?_map] at hi
   obtain ⟨z,hz,rfl⟩:=Option.map_eq_some_iff.mp hi
   obtain ⟨⟨g,one⟩,hg,ez,dm,pa',pb',pn',hz1⟩:=pgetL ps hz
   have ez:one=1:=ez
   subst ez
   have lt:ts.length≤2:=by
    have:=h3.length
    rw [this]
    have l2:=ps.length
    have l3:=starsOf_len d wd pr
    rw [List.length_take]
    omega
   refine ⟨rfl,_,rfl,z,Ca,dm,_,_,rfl,h5 _ _ hz1,TA.cl,TA.nAr,rfl,(by show 2≤sizeLine;decide),fun t ht=>?_⟩
   have tD:t≠D:=(ne_of_none h2 ht).symm
   have hk:∀b o,H' b=some o→b≠D→upd (upd H' t (.tup [.int g,.int 1])) D (.lst (ts.map V.ref++[.ref t])) b=some o:=fun b o hb hn=>by rw [upd_ne hn,upd_ne (ne_of_none hb ht)];exact hb
   refine ⟨ts.map V.ref,by rw [upd_ne tD.symm];exact h2,small1000 (by rw [List.length_map];omega),hk _ _ h1 lD,ts++[t],by rw [upd_same,List.map_append];rfl,?_,fun b hb=>?_,fun b o hb=>hk b o (h5 b o hb) (ne_of_none hb hD)⟩
   ·rw [take_snoc hg]
    refine Paired.snoc (pmono h3 fun b y _ hb=>hk _ _ hb (fun z=>by rw [z] at hb;unfold TupAt at hb;rw [h2] at hb;cases hb)) ?_
    show upd _ _ _ t=_
    rw [upd_ne tD,upd_same]
    rfl
   ·rcases List.mem_append.mp hb with z | z
    ·exact h4 b z
    ·rw [List.mem_singleton.mp z];exact Same.free' s1 (Same.free' h5 ht)
  ·obtain ⟨h1,ts,h2,h3,h4,h5⟩:=h
   rw [List.length_map,ps.length,List.take_length] at h3
   have D2:=(D0.same s1).same h5
   have lt:ts.length≤2:=by
    have:=h3.length
    rw [this]
    have l2:=ps.length
    have l3:=starsOf_len d wd pr
    omega
   refine ⟨_,rfl,.inl ⟨rfl,_,SqL.of h2⟩,_,rfl,x,Cd,dx,_,_,rfl,D2.1,T.cl,T.nArg,rfl,_,rfl,x,dx,fl,wd,pr,d,place,size,arg,wa,pa,rfl,D2,(by show 2≤sizeLine;decide),fun t ht=>?_⟩
   have tD:t≠D:=(ne_of_none h2 ht).symm
   have hk:∀b o,H' b=some o→b≠D→upd (upd H' t (.tup [.int arg,.int (Fc.typeOf d)])) D (.lst (ts.map V.ref++[.ref t])) b=some o:=fun b o hb hn=>by rw [upd_ne hn,upd_ne (ne_of_none hb ht)];exact hb
   refine ⟨D,_,_,rfl,rfl,(by rw [upd_ne tD.symm];exact h2),small1000 (by rw [List.length_map];omega),_,rfl,q D (ts++[t]) _ HD ?_ ?_ (fun b hb=>?_) fun b o hb=>hk b o (h5 b o (s1 b o hb)) (ne_of_none hb HD)⟩
   ·rw [upd_same,List.map_append];rfl
   ·refine Paired.snoc (pmono h3 fun b y _ hb=>hk _ _ hb (fun z=>by rw [z] at hb;unfold TupAt at hb;rw [h2] at hb;cases hb)) ?_
    show upd _ _ _ t=_
    rw [upd_ne tD,upd_same]
   ·rcases List.mem_append.mp hb with z | z
    ·exact h4 b z
    ·rw [List.mem_singleton.mp z];exact Same.free' s1 (Same.free' h5 ht)
end
end Fm
namespace Fm
open PySem PySem.Spec PyProof.Rows L2
open Fc (Bytes Size Len Conv has isNumber)
structure TRu (K:PySem.W.Frag) (mg:Str→Option Value):Prop where
 PLUS:GI mg "PLUS" 43
 BLANK:GI mg "BLANK" 32
 ZERO:GI mg "ZERO" 48
 MINUS:GI mg "MINUS" 45
 HASH:GI mg "HASH" 35
 LC:GI mg "LETTER_C" 99
 NUM:GT K mg "NUMERIC" [.int 100,.int 105,.int 117,.int 111,.int 120,.int 88]
 BAS:GT K mg "BASED" [.int 111,.int 120,.int 88]
def isBased:Conv→Bool
 | .octal=>true
 | .hex=>true
 | .HEX=>true
 | _=>false
theorem inV_num (c:Conv) (i:Bool):inV (.int (convByte c i)) [.int 100,.int 105,.int 117,.int 111,.int 120,.int 88]=isNumber c:=by cases c<;>cases i<;>decide +kernel
theorem inV_bas (c:Conv) (i:Bool):inV (.int (convByte c i)) [.int 111,.int 120,.int 88]=isBased c:=by cases c<;>cases i<;>decide +kernel
theorem inV_has (d:Fc.Dir) (c:UInt8) (i:Int) (h:i=(c.toNat:Int)):inV (.int i) (d.flags.map vb)=has d c:=by
 subst h
 exact inV_map c d.flags
theorem len_plain (L:Len):decide (V.str (lenStr L)=V.str "")=(L==.plain):=by cases L<;>decide +kernel
theorem pres_none (s:Size):(!szPres s)=(s==.none):=by cases s<;>rfl
def p1 (d:Fc.Dir):Bool:=!(has d 43&&has d 32)&&(isSig d.conv||!(has d 43||has d 32))
def p2 (d:Fc.Dir):Bool:=!has d 48||(!(has d 45||szPres d.prec)&&isNumber d.conv)
def p3 (d:Fc.Dir):Bool:=isBased d.conv||!has d 35
def p4 (d:Fc.Dir):Bool:=(!decide (d.conv=.char))||!szPres d.prec
def p5 (d:Fc.Dir):Bool:=isNumber d.conv||d.len==.plain
theorem right_parts (d:Fc.Dir):rightFlags d=(p1 d&&(p2 d&&(p3 d&&(p4 d&&(p5 d&&starsOk d))))):=by
 have a:(d.conv==.signed)=isSig d.conv:=by cases d.conv<;>rfl
 have b:(d.conv==.octal||(d.conv==.hex||d.conv==.HEX))=isBased d.conv:=by cases d.conv<;>rfl
 have c:(d.conv != .char)=!decide (d.conv=.char):=by cases d.conv<;>rfl
 unfold rightFlags p1 p2 p3 p4 p5
 rw [a,b,c,←pres_none]
 cases has d 43<;>cases has d 32<;>cases has d 48<;>cases has d 45<;>cases has d 35<;>cases isSig d.conv<;>cases isBased d.conv<;>cases isNumber d.conv<;>cases szPres d.prec<;>simp
def spPart (Cd Ca:Addr) (part:Fc.Dir→Bool):Sp:=fun vs H Q _=>∃x dx fl w p d place size arg wa pa,vs=[.ref x]∧DirX Cd Ca H x dx fl w p d place size arg wa pa∧Q (.bl (part d)) H
def spStarsFit (Cd Ca:Addr):Sp:=fun vs H Q _=>∃x dx fl w p d place size arg,vs=[.ref x]∧DirX Cd Ca H x dx fl w p d place size arg (szArg d.width) (szArg d.prec)∧numsOk d=true∧∀H',Same H H'→Q (.bl (starsOk d)) H'
def spRight (Cd Ca:Addr):Sp:=fun vs H Q _=>∃x dx fl w p d place size arg,vs=[.ref x]∧DirX Cd Ca H x dx fl w p d place size arg (szArg d.width) (szArg d.prec)∧numsOk d=true∧∀H',Same H H'→Q (.bl (rightFlags d)) H'
def starSizes (d:Fc.Dir):List Size:=(if szStar d.width=true then [d.width] else [])++(if szStar d.prec=true then [d.prec] else [])
theorem stars_all (d:Fc.Dir):starsOk d=(starSizes d).all (sOk d.pos):=by
 rw [starsOk_eq]
 unfold starSizes
 have h:∀s:Size,szStar s=false→sOk d.pos s=true:=fun s z=>by cases s<;>first | rfl | cases z
 cases hw:szStar d.width<;>cases hp:szStar d.prec<;>simp [h,hw,hp]
theorem sizes_ok {d:Fc.Dir} (h:numsOk d=true):∀s∈starSizes d,szStar s=true∧(∀n,s=.arg n→0 < n):=by
 unfold numsOk at h
 rw [Bool.and_eq_true,Bool.and_eq_true] at h
 have k:∀lo s,sizeOk lo s=true→∀n,s=.arg n→0 < n:=fun lo s z n e=>by
  subst e
  have:Fc.placeOk n=true:=z
  unfold Fc.placeOk at this
  rw [Bool.and_eq_true,decide_eq_true_iff] at this
  omega
 intro s hs
 unfold starSizes at hs
 cases hw:szStar d.width<;>cases hp:szStar d.prec<;>simp [hw,hp] at hs
 ·subst hs;exact ⟨hp,k _ _ h.2.1⟩
 ·subst hs;exact ⟨hw,k _ _ h.1⟩
 ·rcases hs with rfl | rfl
  ·exact ⟨hw,k _ _ h.1⟩
  ·exact ⟨hp,k _ _ h.2.1⟩
theorem star_test {pos:Option Nat} {s:Size} (h1:szStar s=true) (h2:∀n,s=.arg n→0 < n):(!decide (V.bl (decide ((0:Int) < ((szArg s:Nat):Int)))=V.bl pos.isSome))=!sOk pos s:=by
 cases s with
 | next=>cases pos<;>rfl
 | arg n=>
  have:decide ((0:Int) < ((szArg (.arg n):Nat):Int))=true:=decide_eq_true (by have:=h2 n rfl;show (0:Int) < (n:Int);omega)
  rw [this]
  cases pos<;>rfl
 | _=>cases h1
def SizeAt (Ca:Addr) (H:Hp) (z:Addr) (s:Size):Prop:=∃dm a b n,H z=some (.ins Ca dm (amF a b n (szArg s:Nat)))
theorem DirX.sizes {Cd Ca:Addr} {H:Hp} {x dx fl w p:Addr} {d:Fc.Dir} {place size arg:Nat} (h:DirX Cd Ca H x dx fl w p d place size arg (szArg d.width) (szArg d.prec)):Paired (SizeAt Ca H) (starsOf d w p) (starSizes d):=by
 obtain ⟨_,_,⟨d1,h1⟩,⟨d2,h2⟩⟩:=h
 unfold starsOf starSizes
 have a1:SizeAt Ca H w d.width:=⟨d1,_,_,_,h1⟩
 have a2:SizeAt Ca H p d.prec:=⟨d2,_,_,_,h2⟩
 cases szStar d.width<;>cases szStar d.prec
 ·exact .nil
 ·exact .cons a2 .nil
 ·exact .cons a1 .nil
 ·exact .cons a1 (.cons a2 .nil)
section
variable {P:Program} {w:World} {K:PySem.W.Frag} {mg:Str→Option Value} {base:Heap}
theorem ok_sign_flags_fit {f Cd Ca:Addr} {fd:FuncData} (F:Fun K "sign_flags_fit" "sign_flags_fit" s_sign_flags_fit f fd) (T:TDr K Cd) (S:TKd K mg) (R:TRu K mg):FnOk P w K mg base CX0 1 f fd ["directive"] (spPart Cd Ca p1):=by
 refine F.ok sc_sign_flags_fit (fun vs H Q E h=>?_) (fun cdv A outer s H vs Q E hr h=>?_)
 ·obtain ⟨x,dx,fl,wd,pr,d,place,size,arg,wa,pa,rfl,_⟩:=h
  rfl
 ·obtain ⟨x,dx,fl,wd,pr,d,place,size,arg,wa,pa,rfl,⟨hx,hf,_,_⟩,q⟩:=h
  refine ⟨_,pss_cons (ps_set (i:=1) sc_sign_flags_fit.nd rfl (Or.inl rfl) (pe_cmpR op_in_seq (pe_gi R.PLUS) (pe_fld (pv 0) rfl) (by with_unfolding_all rfl)))
   (pss_cons (ps_set (i:=2) sc_sign_flags_fit.nd rfl (Or.inl rfl) (pe_cmpR op_in_seq (pe_gi R.BLANK) (pe_fld (pv 0) rfl) (by with_unfolding_all rfl)))
   (pss_cons (ps_if (pw_and (pt_val (pv 1)) (pw_and1 (pt_val (pv 2)))).pt (pss_one (ps_ret pe_bl)) pss_nil)
   (pss_one (ps_ret (pe_or (pe_cmpR op_in_seq (pe_fld (pv 0) rfl) (pe_gt S.SIG) (by with_unfolding_all rfl)) (pe_one (pe_not (pe_or (pv 1) (pe_one (pv 2)))))))))),?_⟩
  refine ⟨_,rfl,x,Cd,dx,_,_,rfl,hx,T.cl,T.nFl,rfl,fl,_,rfl,.inl (SqL.of hf),rfl,flat_map _,?_⟩
  refine ⟨_,rfl,x,Cd,dx,_,_,rfl,hx,T.cl,T.nFl,rfl,fl,_,rfl,.inl (SqL.of hf),rfl,flat_map _,?_⟩
  show tSeq _ _ _ [some (V.ref x),some (V.bl (inV (.int 43) (d.flags.map vb))),some (V.bl (inV (.int 32) (d.flags.map vb)))] H
  rw [inV_has d 43 43 rfl,inV_has d 32 32 rfl]
  unfold p1 at q
  refine ⟨_,rfl,_,rfl,?_⟩
  cases hp:has d 43<;>cases hb:has d 32<;>rw [hp,hb] at q
  ·refine iteF (iteF ⟨_,rfl,x,Cd,dx,_,_,rfl,hx,T.cl,T.nCv,rfl,fun g hg=>⟨g,_,rfl,.inr (hg _),rfl,by decide,_,rfl,iteB (inV_sig _ _) ?_⟩⟩)
   refine ite2 (fun h=>?_) fun h=>?_
   ·rw [h] at q;exact q
   ·rw [Bool.eq_false_iff.mpr h] at q
    exact ⟨_,rfl,_,rfl,iteF ⟨_,rfl,_,rfl,q⟩⟩
  ·refine iteF (iteF ⟨_,rfl,x,Cd,dx,_,_,rfl,hx,T.cl,T.nCv,rfl,fun g hg=>⟨g,_,rfl,.inr (hg _),rfl,by decide,_,rfl,iteB (inV_sig _ _) ?_⟩⟩)
   refine ite2 (fun h=>?_) fun h=>?_
   ·rw [h] at q;exact q
   ·rw [Bool.eq_false_iff.mpr h] at q
    exact ⟨_,rfl,_,rfl,iteF ⟨_,rfl,_,rfl,q⟩⟩
  ·refine iteT ⟨_,rfl,_,rfl,iteF ⟨_,rfl,x,Cd,dx,_,_,rfl,hx,T.cl,T.nCv,rfl,fun g hg=>⟨g,_,rfl,.inr (hg _),rfl,by decide,_,rfl,iteB (inV_sig _ _) ?_⟩⟩⟩
   refine ite2 (fun h=>?_) fun h=>?_
   ·rw [h] at q;exact q
   ·rw [Bool.eq_false_iff.mpr h] at q
    exact ⟨_,rfl,_,rfl,iteT ⟨_,rfl,q⟩⟩
  ·exact iteT ⟨_,rfl,_,rfl,iteT q⟩
theorem ok_zero_fits {f Cd Ca:Addr} {fd:FuncData} (F:Fun K "zero_fits" "zero_fits" s_zero_fits f fd) (T:TDr K Cd) (TA:TAm K Ca) (R:TRu K mg):FnOk P w K mg base CX0 1 f fd ["directive"] (spPart Cd Ca p2):=by
 refine F.ok sc_zero_fits (fun vs H Q E h=>?_) (fun cdv A outer s H vs Q E hr h=>?_)
 ·obtain ⟨x,dx,fl,wd,pr,d,place,size,arg,wa,pa,rfl,_⟩:=h
  rfl
 ·obtain ⟨x,dx,fl,wd,pr,d,place,size,arg,wa,pa,rfl,⟨hx,hf,_,⟨d2,hp⟩⟩,q⟩:=h
  refine ⟨_,pss_cons (ps_if (pt_cmpR op_notIn_seq (pe_gi R.ZERO) (pe_fld (pv 0) rfl) (by with_unfolding_all rfl)) (pss_one (ps_ret pe_bl)) pss_nil)
   (pss_cons (ps_if (pw_or (pt_cmpR op_in_seq (pe_gi R.MINUS) (pe_fld (pv 0) rfl) (by with_unfolding_all rfl)) (pw_or1 (pt_val (pe_fld (pe_fld (pv 0) rfl) rfl)))).pt (pss_one (ps_ret pe_bl)) pss_nil)
   (pss_one (ps_ret (pe_cmpR op_in_seq (pe_fld (pv 0) rfl) (pe_gt R.NUM) (by with_unfolding_all rfl))))),?_⟩
  unfold p2 at q
  refine ⟨_,rfl,x,Cd,dx,_,_,rfl,hx,T.cl,T.nFl,rfl,fl,_,rfl,.inl (SqL.of hf),rfl,flat_map _,_,rfl,?_⟩
  refine iteB (c:=!has d 48) (by show (!inV (.int 48) (d.flags.map vb))=_;rw [inV_has d 48 48 rfl]) ?_
  refine ite2 (fun h=>?_) fun h=>?_
  ·rw [h,Bool.true_or] at q;exact q
  ·rw [Bool.eq_false_iff.mpr h,Bool.false_or] at q
   refine ⟨_,rfl,x,Cd,dx,_,_,rfl,hx,T.cl,T.nFl,rfl,fl,_,rfl,.inl (SqL.of hf),rfl,flat_map _,_,rfl,?_⟩
   refine iteB (inV_has d 45 45 rfl) ?_
   have last:(has d 45||szPres d.prec)=false→tRet (tOp (rIn K false) (tFld K (tVar 0) "conversion") (tGT K [.int 100,.int 105,.int 117,.int 111,.int 120,.int 88])) ⟨fun _ _=>False,Q,fun _ _=>False,fun _ _=>False⟩ [some (V.ref x)] H:=fun z=>by
    rw [z] at q
    refine ⟨_,rfl,x,Cd,dx,_,_,rfl,hx,T.cl,T.nCv,rfl,fun g hg=>⟨g,_,rfl,.inr (hg _),rfl,by decide,?_⟩⟩
    show Q (V.bl (inV _ _)) H
    rw [inV_num]
    exact q
   refine ite2 (fun h2=>?_) fun h2=>?_
   ·rw [h2] at q
    exact iteT q
   ·refine ⟨_,rfl,x,Cd,dx,_,_,rfl,hx,T.cl,T.nP,rfl,pr,Ca,d2,_,_,rfl,hp,TA.cl,TA.nPr,rfl,_,rfl,?_⟩
    refine ite2 (fun h3=>?_) fun h3=>?_
    ·rw [h3,Bool.or_true] at q
     exact q
    ·exact last (by rw [Bool.eq_false_iff.mpr h2,Bool.eq_false_iff.mpr h3];rfl)
theorem ok_hash_fits {f Cd Ca:Addr} {fd:FuncData} (F:Fun K "hash_fits" "hash_fits" s_hash_fits f fd) (T:TDr K Cd) (R:TRu K mg):FnOk P w K mg base CX0 1 f fd ["directive"] (spPart Cd Ca p3):=by
 refine F.ok sc_hash_fits (fun vs H Q E h=>?_) (fun cdv A outer s H vs Q E hr h=>?_)
 ·obtain ⟨x,dx,fl,wd,pr,d,place,size,arg,wa,pa,rfl,_⟩:=h
  rfl
 ·obtain ⟨x,dx,fl,wd,pr,d,place,size,arg,wa,pa,rfl,⟨hx,hf,_,_⟩,q⟩:=h
  refine ⟨_,pss_one (ps_ret (pe_or (pe_cmpR op_in_seq (pe_fld (pv 0) rfl) (pe_gt R.BAS) (by with_unfolding_all rfl)) (pe_one (pe_cmpR op_notIn_seq (pe_gi R.HASH) (pe_fld (pv 0) rfl) (by with_unfolding_all rfl))))),?_⟩
  unfold p3 at q
  refine ⟨_,rfl,x,Cd,dx,_,_,rfl,hx,T.cl,T.nCv,rfl,fun g hg=>⟨g,_,rfl,.inr (hg _),rfl,by decide,_,rfl,iteB (inV_bas _ _) ?_⟩⟩
  refine ite2 (fun h=>?_) fun h=>?_
  ·rw [h] at q;exact q
  ·rw [Bool.eq_false_iff.mpr h,Bool.false_or] at q
   refine ⟨_,rfl,x,Cd,dx,_,_,rfl,hx,T.cl,T.nFl,rfl,fl,_,rfl,.inl (SqL.of hf),rfl,flat_map _,?_⟩
   show Q (V.bl (!inV (.int 35) (d.flags.map vb))) H
   rw [inV_has d 35 35 rfl]
   exact q
theorem ok_precision_fits {f Cd Ca:Addr} {fd:FuncData} (F:Fun K "precision_fits" "precision_fits" s_precision_fits f fd) (T:TDr K Cd) (TA:TAm K Ca) (R:TRu K mg):FnOk P w K mg base CX0 1 f fd ["directive"] (spPart Cd Ca p4):=by
 refine F.ok sc_precision_fits (fun vs H Q E h=>?_) (fun cdv A outer s H vs Q E hr h=>?_)
 ·obtain ⟨x,dx,fl,wd,pr,d,place,size,arg,wa,pa,rfl,_⟩:=h
  rfl
 ·obtain ⟨x,dx,fl,wd,pr,d,place,size,arg,wa,pa,rfl,⟨hx,hf,_,⟨d2,hp⟩⟩,q⟩:=h
  refine ⟨_,pss_one (ps_ret (pe_or (pe_cmpR op_ne (pe_fld (pv 0) rfl) (pe_gi R.LC) (nomark _)) (pe_one (pe_not (pe_fld (pe_fld (pv 0) rfl) rfl))))),?_⟩
  unfold p4 at q
  refine ⟨_,rfl,x,Cd,dx,_,_,rfl,hx,T.cl,T.nCv,rfl,rfl,_,rfl,?_⟩
  refine iteB (c:=!decide (d.conv=.char)) (congrArg _ (cv_char _ _)) ?_
  refine ite2 (fun h=>?_) fun h=>?_
  ·rw [h] at q;exact q
  ·rw [Bool.eq_false_iff.mpr h,Bool.false_or] at q
   exact ⟨_,rfl,x,Cd,dx,_,_,rfl,hx,T.cl,T.nP,rfl,pr,Ca,d2,_,_,rfl,hp,TA.cl,TA.nPr,rfl,_,rfl,q⟩
theorem ok_length_fits {f Cd Ca:Addr} {fd:FuncData} (F:Fun K "length_fits" "length_fits" s_length_fits f fd) (T:TDr K Cd) (R:TRu K mg):FnOk P w K mg base CX0 1 f fd ["directive"] (spPart Cd Ca p5):=by
 refine F.ok sc_length_fits (fun vs H Q E h=>?_) (fun cdv A outer s H vs Q E hr h=>?_)
 ·obtain ⟨x,dx,fl,wd,pr,d,place,size,arg,wa,pa,rfl,_⟩:=h
  rfl
 ·obtain ⟨x,dx,fl,wd,pr,d,place,size,arg,wa,pa,rfl,⟨hx,hf,_,_⟩,q⟩:=h
  refine ⟨_,pss_one (ps_ret (pe_or (pe_cmpR op_in_seq (pe_fld (pv 0) rfl) (pe_gt R.NUM) (by with_unfolding_all rfl)) (pe_one (pe_cmpR op_eq (pe_fld (pv 0) rfl) pe_str (nomark _))))),?_⟩
  unfold p5 at q
  refine ⟨_,rfl,x,Cd,dx,_,_,rfl,hx,T.cl,T.nCv,rfl,fun g hg=>⟨g,_,rfl,.inr (hg _),rfl,by decide,_,rfl,iteB (inV_num _ _) ?_⟩⟩
  refine ite2 (fun h=>?_) fun h=>?_
  ·rw [h] at q;exact q
  ·rw [Bool.eq_false_iff.mpr h,Bool.false_or] at q
   refine ⟨_,rfl,x,Cd,dx,_,_,rfl,hx,T.cl,T.nLen,rfl,rfl,?_⟩
   rw [len_plain]
   exact q
theorem ok_stars_fit {f Cd Ca:Addr} {fd:FuncData} (F:Fun K "stars_fit" "stars_fit" s_stars_fit f fd) (T:TDr K Cd) (TA:TAm K Ca) (cSt:Cal P w K mg base CX0 "stars" ["directive"] 1 (spStars Cd Ca)):FnOk P w K mg base CX0 2 f fd ["directive"] (spStarsFit Cd Ca):=by
 refine F.ok sc_stars_fit (fun vs H Q E h=>?_) (fun cdv A outer s H vs Q E hr h=>?_)
 ·obtain ⟨x,dx,fl,wd,pr,d,place,size,arg,rfl,_⟩:=h
  rfl
 ·obtain ⟨x,dx,fl,wd,pr,d,place,size,arg,rfl,D0,hn,q⟩:=h
  refine ⟨_,pss_cons (ps_for PassesOwn.never rfl (pi_list (pe_cal cSt hr pass0 (pa_cons (pv 0) pa_nil))) (pg_name (i:=1) sc_stars_fit.nd rfl (Or.inl rfl))
   (pss_one (ps_if (pt_cmpR op_ne (pe_cmpR op_gt (pe_fld (pv 1) rfl) pe_int (nomark _)) (pe_fld (pv 0) rfl) (nomark _)) (pss_one (ps_ret pe_bl)) pss_nil)))
   (pss_one (ps_ret pe_bl)),?_⟩
  refine ⟨_,rfl,x,dx,fl,wd,pr,d,place,size,arg,_,_,rfl,D0,fun l H1 nl hl s1=>⟨l,rfl,⟨_,SqL.of hl⟩,?_⟩⟩
  have D1:=D0.same s1
  have ps:=D1.sizes
  refine for_list (xs:=(starsOf d wd pr).map V.ref) (fun i σ H'=>H1=H'∧(∃v,σ=[some (.ref x),v])∧((starSizes d).take i).all (sOk d.pos)=true) ⟨rfl,⟨none,rfl⟩,rfl⟩ (fun i σ H' _ h=>by rw [←h.1];exact SqL.of hl) (fun i y σ H' hi h=>?_) fun σ H' h=>?_
  ·obtain ⟨rfl,⟨v,rfl⟩,h3⟩:=h
   rw [List.getElem?_map] at hi
   obtain ⟨z,hz,rfl⟩:=Option.map_eq_some_iff.mp hi
   obtain ⟨sz,hs,dm,pa',pb',pn',hz1⟩:=pgetL ps hz
   obtain ⟨k1,k2⟩:=sizes_ok hn sz (List.mem_of_getElem? hs)
   refine ⟨_,rfl,z,Ca,dm,_,_,rfl,hz1,TA.cl,TA.nAr,rfl,_,_,rfl,rfl,_,rfl,x,Cd,dx,_,_,rfl,D1.1,T.cl,T.nBy,rfl,rfl,_,rfl,iteB (star_test k1 k2) ?_⟩
   refine ite2 (fun hb=>?_) fun hb=>?_
   ·refine q H1 s1 |> fun q=>?_
    have:starsOk d=false:=by
     rw [stars_all]
     refine Bool.eq_false_iff.mpr fun hall=>?_
     rw [List.all_eq_true] at hall
     rw [hall sz (List.mem_of_getElem? hs)] at hb
     cases hb
    rw [this] at q
    exact q
   ·refine ⟨rfl,⟨_,rfl⟩,?_⟩
    rw [take_snoc hs,List.all_append,h3]
    have:sOk d.pos sz=true:=by
     cases hk:sOk d.pos sz with
     | true=>rfl
     | false=>rw [hk] at hb;exact absurd rfl hb
    simp [this]
  ·obtain ⟨rfl,_,h3⟩:=h
   rw [List.length_map,ps.length,List.take_length] at h3
   have:=q H1 s1
   rw [stars_all,h3] at this
   exact this
theorem ok_is_right {f Cd Ca:Addr} {fd:FuncData} (F:Fun K "is_right" "is_right" s_is_right f fd) (c1:Cal P w K mg base CX0 "sign_flags_fit" ["directive"] 1 (spPart Cd Ca p1)) (c2:Cal P w K mg base CX0 "zero_fits" ["directive"] 1 (spPart Cd Ca p2))
 (c3:Cal P w K mg base CX0 "hash_fits" ["directive"] 1 (spPart Cd Ca p3)) (c4:Cal P w K mg base CX0 "precision_fits" ["directive"] 1 (spPart Cd Ca p4)) (c5:Cal P w K mg base CX0 "length_fits" ["directive"] 1 (spPart Cd Ca p5))
 (c6:Cal P w K mg base CX0 "stars_fit" ["directive"] 2 (spStarsFit Cd Ca)):FnOk P w K mg base CX0 3 f fd ["directive"] (spRight Cd Ca):=by
 refine F.ok sc_is_right (fun vs H Q E h=>?_) (fun cdv A outer s H vs Q E hr h=>?_)
 ·obtain ⟨x,dx,fl,wd,pr,d,place,size,arg,rfl,_⟩:=h
  rfl
 ·obtain ⟨x,dx,fl,wd,pr,d,place,size,arg,rfl,D0,hn,q⟩:=h
  have hr1:Room 1 _:=hr.mono (by decide)
  refine ⟨_,pss_one (ps_ret (pe_and (pe_cal c1 hr1 pass0 (pa_cons (pv 0) pa_nil)) (pe_and (pe_cal c2 hr1 pass0 (pa_cons (pv 0) pa_nil)) (pe_and (pe_cal c3 hr1 pass0 (pa_cons (pv 0) pa_nil)) (pe_and (pe_cal c4 hr1 pass0 (pa_cons (pv 0) pa_nil))
   (pe_and (pe_cal c5 hr1 pass0 (pa_cons (pv 0) pa_nil)) (pe_one (pe_cal c6 hr pass0 (pa_cons (pv 0) pa_nil))))))))),?_⟩
  rw [right_parts] at q
  refine ⟨_,rfl,x,dx,fl,wd,pr,d,place,size,arg,_,_,rfl,D0,_,rfl,ite2 (fun h1=>?_) fun h1=>?_⟩
  rotate_left
  ·rw [Bool.eq_false_iff.mpr h1] at q;exact q H fun _ _ h=>h
  refine ⟨_,rfl,x,dx,fl,wd,pr,d,place,size,arg,_,_,rfl,D0,_,rfl,ite2 (fun h2=>?_) fun h2=>?_⟩
  rotate_left
  ·rw [h1,Bool.eq_false_iff.mpr h2] at q;exact q H fun _ _ h=>h
  refine ⟨_,rfl,x,dx,fl,wd,pr,d,place,size,arg,_,_,rfl,D0,_,rfl,ite2 (fun h3=>?_) fun h3=>?_⟩
  rotate_left
  ·rw [h1,h2,Bool.eq_false_iff.mpr h3] at q;exact q H fun _ _ h=>h
  refine ⟨_,rfl,x,dx,fl,wd,pr,d,place,size,arg,_,_,rfl,D0,_,rfl,ite2 (fun h4=>?_) fun h4=>?_⟩
  rotate_left
  ·rw [h1,h2,h3,Bool.eq_false_iff.mpr h4] at q;exact q H fun _ _ h=>h
  refine ⟨_,rfl,x,dx,fl,wd,pr,d,place,size,arg,_,_,rfl,D0,_,rfl,ite2 (fun h5=>?_) fun h5=>?_⟩
  rotate_left
  ·rw [h1,h2,h3,h4,Bool.eq_false_iff.mpr h5] at q;exact q H fun _ _ h=>h
  rw [h1,h2,h3,h4,h5] at q
  exact ⟨_,rfl,x,dx,fl,wd,pr,d,place,size,arg,rfl,D0,hn,q⟩
end
end Fm
namespace Fm
open PySem PySem.Spec PyProof.Rows L2
open Fc (Bytes Size Len Conv Use)
theorem mxF_le (f:Nat→Int):∀(k:Nat) (m:Int) (j:Nat),m≤mxF f m j k∧∀i,j≤i→i < j + k→f i≤mxF f m j k
 | 0,m,j=>⟨Int.le_refl _,fun i h1 h2=>by omega⟩
 | k + 1,m,j=>by
  rw [mxF]
  obtain ⟨h1,h2⟩:=mxF_le f k (if f j > m then f j else m) (j + 1)
  have h3:m≤(if f j > m then f j else m)∧f j≤(if f j > m then f j else m):=by split<;>omega
  refine ⟨by omega,fun i g1 g2=>?_⟩
  by_cases e:i=j
  ·subst e;omega
  ·exact h2 i (by omega) (by omega)
theorem mxF_mem (f:Nat→Int):∀(k:Nat) (m:Int) (j:Nat),mxF f m j k=m∨∃i,j≤i∧i < j + k∧mxF f m j k=f i
 | 0,m,j=>.inl rfl
 | k + 1,m,j=>by
  rw [mxF]
  rcases mxF_mem f k (if f j > m then f j else m) (j + 1) with h | ⟨i,h1,h2,h3⟩
  ·rw [h]
   split
   ·exact .inr ⟨j,by omega,by omega,rfl⟩
   ·exact .inl rfl
  ·exact .inr ⟨i,by omega,by omega,h3⟩
theorem maxD_eq {ns:List Int} {m d:Int} (h1:∀n∈ns,n≤m) (h2:m∈ns∨(ns=[]∧m=d)):maxD ns d=m:=by
 unfold maxD
 rcases h2 with h2 | ⟨rfl,rfl⟩
 ·have hl:ns.length≠0:=fun z=>by rw [List.length_eq_zero_iff.mp z] at h2;cases h2
  rw [if_neg hl]
  obtain ⟨i,hi,e⟩:=List.getElem_of_mem h2
  have gd:∀j (hj:j < ns.length),ns.getD j 0=ns[j]:=fun j hj=>by rw [List.getD_eq_getElem?_getD,List.getElem?_eq_getElem hj];rfl
  obtain ⟨a1,a2⟩:=mxF_le (fun i=>ns.getD i 0) (ns.length - 1) (ns.getD 0 0) 1
  have up:m≤mxF (fun i=>ns.getD i 0) (ns.getD 0 0) 1 (ns.length - 1):=by
   by_cases z:i=0
   ·subst z;rw [←e,←gd 0 hi];exact a1
   ·have:=a2 i (by omega) (by omega)
    rw [gd i hi,e] at this
    exact this
  have dn:mxF (fun i=>ns.getD i 0) (ns.getD 0 0) 1 (ns.length - 1)≤m:=by
   rcases mxF_mem (fun i=>ns.getD i 0) (ns.length - 1) (ns.getD 0 0) 1 with z | ⟨j,b1,b2,z⟩
   ·rw [z,gd 0 (by omega)];exact h1 _ (List.getElem_mem _)
   ·rw [z,gd j (by omega)];exact h1 _ (List.getElem_mem _)
  omega
 ·rfl
def Knd (kvs:List (Key×V)) (ws:List (Nat×Nat)):Prop:=(∀kv∈kvs,∃n:Nat,kv.1=Sum.inl (n:Int))∧(∀n:Nat,valV kvs (Sum.inl (n:Int))=if tableOf ws n=0 then none else some (.int (tableOf ws n:Nat)))∧kvs.length≤ws.length
theorem Knd.nil:Knd [] []:=⟨by simp,fun n=>rfl,Nat.le_refl _⟩
theorem Knd.get {kvs:List (Key×V)} {ws:List (Nat×Nat)} (h:Knd kvs ws) (n:Nat):(valV kvs (Sum.inl (n:Int))).getD (.int 0)=.int (tableOf ws n:Nat):=by
 rw [h.2.1]
 split
 ·rename_i z;rw [z];rfl
 ·rfl
theorem putK_len (kvs:List (Key×V)) (k:Key) (v:V):(putK kvs k v).length≤kvs.length + 1:=by
 unfold putK
 split
 ·rw [List.length_map];omega
 ·rw [List.length_append];exact Nat.le_refl _
theorem putK_mem {kvs:List (Key×V)} {k:Key} {v:V} {kv:Key×V} (h:kv∈putK kvs k v):kv.1=k∨∃kv'∈kvs,kv'.1=kv.1:=by
 unfold putK at h
 split at h
 ·obtain ⟨x,hx,e⟩:=List.mem_map.mp h
  refine .inr ⟨x,hx,?_⟩
  rw [←e]
  split<;>rfl
 ·rcases List.mem_append.mp h with z | z
  ·exact .inr ⟨kv,z,rfl⟩
  ·rw [List.mem_singleton.mp z];exact .inl rfl
theorem Knd.put {kvs:List (Key×V)} {ws:List (Nat×Nat)} {x:Nat×Nat} (h:Knd kvs ws) (h0:∀y∈ws,y.2≠0) (hx:x.2≠0) (ok:okTake ws x):Knd (putK kvs (Sum.inl (x.1:Int)) (.int (x.2:Nat))) (ws++[x]):=by
 refine ⟨fun kv m=>?_,fun n=>?_,?_⟩
 ·rcases putK_mem m with e | ⟨kv',m',e⟩
  ·exact ⟨x.1,e⟩
  ·rw [←e];exact h.1 kv' m'
 ·rw [valV_put,table_append _ _ _ h0,h.2.1]
  have tx:tableOf [x] n=if x.1=n then x.2 else 0:=by
   unfold tableOf
   by_cases e:x.1=n<;>simp [e]
  rw [tx]
  by_cases e:x.1=n
  ·subst e
   rw [if_pos rfl,if_pos rfl]
   rcases ok.2 with z | z
   ·simp [z,hx]
   ·simp [z,hx]
  ·rw [if_neg (fun z=>e (by have:=Sum.inl.inj z;omega)),if_neg e]
   by_cases z:tableOf ws n=0
   ·simp [z]
   ·simp [z]
 ·have:=putK_len kvs (Sum.inl (x.1:Int)) (.int (x.2:Nat))
  rw [List.length_append]
  have:=h.2.2
  show _≤ws.length + 1
  omega
theorem maxOf_mem:∀{ws:List (Nat×Nat)},ws≠[]→∃x∈ws,x.1=maxOf ws
 | [],h=>absurd rfl h
 | [x],_=>⟨x,by simp,by rw [maxOf_cons,maxOf_nil];simp⟩
 | x::y::ws,_=>by
  obtain ⟨z,hz,e⟩:=maxOf_mem (ws:=y::ws) (by simp)
  rw [maxOf_cons]
  by_cases h:x.1≤maxOf (y::ws)
  ·exact ⟨z,List.mem_cons_of_mem _ hz,by omega⟩
  ·exact ⟨x,by simp,by omega⟩
def keyI (k:Key):Int:=match k with
 | .inl i=>i
 | .inr _=>0
theorem Knd.keys {kvs:List (Key×V)} {ws:List (Nat×Nat)} (h:Knd kvs ws):(kvs.map fun kv=>kV kv.1)=(kvs.map fun kv=>keyI kv.1).map V.int:=by
 rw [List.map_map]
 refine List.map_congr_left fun kv m=>?_
 obtain ⟨n,e⟩:=h.1 kv m
 show kV kv.1=V.int (keyI kv.1)
 rw [e]
 rfl
theorem Knd.max {kvs:List (Key×V)} {ws:List (Nat×Nat)} (h:Knd kvs ws) (h0:∀y∈ws,y.2≠0):maxD (kvs.map fun kv=>keyI kv.1) 0=(maxOf ws:Nat):=by
 refine maxD_eq (fun n hn=>?_) ?_
 ·obtain ⟨kv,m,rfl⟩:=List.mem_map.mp hn
  obtain ⟨n,e⟩:=h.1 kv m
  rw [e]
  show (n:Int)≤_
  have:valV kvs (Sum.inl (n:Int))≠none:=fun z=>valV_not z (List.mem_map.mpr ⟨kv,m,e⟩)
  rw [h.2.1] at this
  have tz:tableOf ws n≠0:=fun z=>this (by rw [if_pos z])
  obtain ⟨x,hx,ex⟩:=(table_cases h0).mp tz
  have:=maxOf_le hx
  omega
 ·by_cases hw:ws=[]
  ·subst hw
   refine .inr ⟨?_,rfl⟩
   have:=h.2.2
   rw [List.length_eq_zero_iff.mp (Nat.le_zero.mp this)]
   rfl
  ·obtain ⟨x,hx,ex⟩:=maxOf_mem hw
   have tz:=(table_cases (n:=x.1) h0).mpr ⟨x,hx,rfl⟩
   have:=h.2.1 x.1
   rw [if_neg tz] at this
   obtain ⟨kv,m,e⟩:=List.mem_map.mp (valV_in this)
   refine .inl (List.mem_map.mpr ⟨kv,m,?_⟩)
   rw [e,←ex]
   rfl
end Fm
namespace Fm
open PySem PySem.Spec PyProof.Rows L2
open Fc (Bytes Size Len Conv Use)
theorem ins_ne {C C' dx dx':Addr} {fs fs':List (Str×V)} (h:fs.length≠fs'.length):HO.ins C dx fs≠HO.ins C' dx' fs':=fun z=>by
 injection z with _ _ z
 exact h (by rw [z])
def fmF (rl dl kd:Addr):List (Str×V):=[("row",.ref rl),("directives",.ref dl),("kinds",.ref kd)]
def UseAt (Cd Ca:Addr) (N:Addr→Prop) (H:Hp) (x:Addr) (u:Use):Prop:=DirG Cd Ca N H x u.dir u.at_ (Fc.spell u.dir).length u.arg (u.width.getD 0) (u.prec.getD 0)
structure FmtX (Cf Cd Ca:Addr) (N:Addr→Prop) (H:Hp) (a dx rl dl kd:Addr) (ds:List Addr) (kvs:List (Key×V)) (bs:Bytes) (us:List Use) (ws:List (Nat×Nat)):Prop where
 na:N a
 nr:N rl
 nd:N dl
 nk:N kd
 ne:rl≠dl
 ha:H a=some (.ins Cf dx (fmF rl dl kd))
 hr:H rl=some (.lst (bs.map vb))
 hd:H dl=some (.lst (ds.map V.ref))
 hk:H kd=some (.dK kvs)
 kn:Knd kvs ws
 us:Paired (UseAt Cd Ca (fun y=>N y∧y≠dl) H) ds us
def FmtAt (Cf Cd Ca:Addr) (N:Addr→Prop) (H:Hp) (a:Addr) (bs:Bytes) (us:List Use) (ws:List (Nat×Nat)):Prop:=∃dx rl dl kd ds kvs,FmtX Cf Cd Ca N H a dx rl dl kd ds kvs bs us ws
section
variable {Cf Cd Ca:Addr} {N N':Addr→Prop} {H H':Hp} {a:Addr} {bs:Bytes} {us:List Use} {ws:List (Nat×Nat)}
theorem FmtAt.keep (h:FmtAt Cf Cd Ca N H a bs us ws) (k:Keep N H H'):FmtAt Cf Cd Ca N H' a bs us ws:=by
 obtain ⟨dx,rl,dl,kd,ds,kvs,h⟩:=h
 exact ⟨dx,rl,dl,kd,ds,kvs,h.na,h.nr,h.nd,h.nk,h.ne,k _ _ h.na h.ha,k _ _ h.nr h.hr,k _ _ h.nd h.hd,k _ _ h.nk h.hk,h.kn,pmono h.us fun x u _ q=>DirG.keep q fun b o nb=>k b o nb.1⟩
theorem FmtAt.sub (h:FmtAt Cf Cd Ca N H a bs us ws) (k:∀b,N b→N' b):FmtAt Cf Cd Ca N' H a bs us ws:=by
 obtain ⟨dx,rl,dl,kd,ds,kvs,h⟩:=h
 exact ⟨dx,rl,dl,kd,ds,kvs,k _ h.na,k _ h.nr,k _ h.nd,k _ h.nk,h.ne,h.ha,h.hr,h.hd,h.hk,h.kn,pmono h.us fun x u _ q=>DirG.sub q fun b nb=>⟨k b nb.1,nb.2⟩⟩
theorem DirG.there {x:Addr} {d:Fc.Dir} {place size arg wa pa:Nat} (h:DirG Cd Ca N H x d place size arg wa pa):DirG Cd Ca (fun y=>N y∧H y≠none) H x d place size arg wa pa:=by
 obtain ⟨n,dx,fl,w,p,n1,n2,n3,ne,e1,e2,⟨d3,e3⟩,⟨d4,e4⟩⟩:=h
 exact ⟨⟨n,by rw [e1];simp⟩,dx,fl,w,p,⟨n1,by rw [e2];simp⟩,⟨n2,by rw [e3];simp⟩,⟨n3,by rw [e4];simp⟩,ne,e1,e2,⟨d3,e3⟩,⟨d4,e4⟩⟩
theorem FmtAt.there (h:FmtAt Cf Cd Ca N H a bs us ws):FmtAt Cf Cd Ca (fun y=>N y∧H y≠none) H a bs us ws:=by
 obtain ⟨dx,rl,dl,kd,ds,kvs,h⟩:=h
 exact ⟨dx,rl,dl,kd,ds,kvs,⟨h.na,by rw [h.ha];simp⟩,⟨h.nr,by rw [h.hr];simp⟩,⟨h.nd,by rw [h.hd];simp⟩,⟨h.nk,by rw [h.hk];simp⟩,h.ne,h.ha,h.hr,h.hd,h.hk,h.kn,pmono h.us fun x u _ q=>DirG.sub (DirG.there q) fun b nb=>⟨⟨nb.1.1,nb.2⟩,nb.1.2⟩⟩
end
structure TFm (K:PySem.W.Frag) (mg:Str→Option Value) (C:Addr):Prop where
 cl:Cls K C
 nRow:NoAttr K C "row"
 nDir:NoAttr K C "directives"
 nKi:NoAttr K C "kinds"
 len:mg "len"=none
 list:mg "list"=none
 max:mg "max"=none
 MOST:GI mg "MOST_DIRECTIVES" 32
def Thrown (C:Addr) (H:Hp) (E:XK):Prop:=∀H',Same H H'→E (.ref C) none H'
def spFmInit (K:PySem.W.Frag) (Cf Cd Ca:Addr):Sp:=fun vs H Q _=>∃(x dx r0:Addr) (bs:Bytes),vs=[.ref x,.ref r0]∧H x=some (.ins Cf dx [])∧SqL K H r0 (bs.map vb)∧∀H',FmtAt Cf Cd Ca (fun y=>H y=none∨y=x) H' x bs [] []→But x H H'→Q .non H'
def spHighest (Cf Cd Ca:Addr):Sp:=fun vs H Q _=>∃(a:Addr) (N:Addr→Prop) (bs:Bytes) (us:List Use) (ws:List (Nat×Nat)),vs=[.ref a]∧FmtAt Cf Cd Ca N H a bs us ws∧(∀y∈ws,y.2≠0)∧∀H',Same H H'→Q (.int (maxOf ws:Nat)) H'
def spKindOf (Cf Cd Ca:Addr):Sp:=fun vs H Q _=>∃(a:Addr) (N:Addr→Prop) (bs:Bytes) (us:List Use) (ws:List (Nat×Nat)),∃n:Nat,vs=[.ref a,.int n]∧FmtAt Cf Cd Ca N H a bs us ws∧Q (.int (tableOf ws n:Nat)) H
def spDirAt (Cf Cd Ca xd:Addr):Sp:=fun vs H Q E=>∃(a:Addr) (N:Addr→Prop) (bs:Bytes) (us:List Use) (ws:List (Nat×Nat)),∃n:Nat,vs=[.ref a,.int n]∧FmtAt Cf Cd Ca N H a bs us ws∧(∀u x,us[n]?=some u→UseAt Cd Ca N H x u→Q (.ref x) H)∧(us[n]?=none→Thrown xd H E)
section
variable {P:Program} {w:World} {K:PySem.W.Frag} {mg:Str→Option Value} {base:Heap}
theorem ok_Format_init {f Cf Cd Ca:Addr} {fd:FuncData} (F:Fun K "__init__" "Format.__init__" s_Format_init f fd) (T:TFm K mg Cf):FnOk P w K mg base CX0 1 f fd ["self","row"] (spFmInit K Cf Cd Ca):=by
 refine F.ok sc_Format_init (fun vs H Q E h=>?_) (fun cdv A outer s H vs Q E hr h=>?_)
 ·obtain ⟨x,dx,r0,bs,rfl,_⟩:=h
  rfl
 ·obtain ⟨x,dx,r0,bs,rfl,hx,hs,k⟩:=h
  refine ⟨_,pss_cons (ps_fld (pv 0) (pe_callTy call_list_of (by rfl) T.list boot_list (pa_cons (pv 1) pa_nil)) rfl) (pss_cons (ps_fld (pv 0) (pe_lst pa_nil) rfl) (pss_one (ps_fld (pv 0) pe_dnewK rfl))),?_⟩
  refine ⟨_,rfl,r0,_,rfl,.inl hs,fun rl nr=>?_⟩
  have xr:x≠rl:=ne_of_none hx nr
  refine ⟨_,rfl,x,Cf,dx,_,rfl,(by rw [upd_ne xr];exact hx),T.cl,T.nRow,(by show 0 < 1000;decide),?_⟩
  generalize hH1:upd (upd H rl _) x _=H1
  have b1:But x H H1:=fun b o hb hn=>by rw [←hH1,upd_ne hn,upd_ne (ne_of_none hb nr)];exact hb
  have hx1:H1 x=some (.ins Cf dx [("row",.ref rl)]):=by rw [←hH1,upd_same];rfl
  have hr1:H1 rl=some (.lst (bs.map vb)):=by rw [←hH1,upd_ne xr.symm,upd_same]
  refine ⟨Nat.zero_le _,fun dl nd=>?_⟩
  have xd:x≠dl:=ne_of_none hx1 nd
  refine ⟨_,rfl,x,Cf,dx,_,rfl,(by rw [upd_ne xd];exact hx1),T.cl,T.nDir,(by show 1 < 1000;decide),?_⟩
  generalize hH2:upd (upd H1 dl _) x _=H2
  have b2:But x H1 H2:=fun b o hb hn=>by rw [←hH2,upd_ne hn,upd_ne (ne_of_none hb nd)];exact hb
  have hx2:H2 x=some (.ins Cf dx [("row",.ref rl),("directives",.ref dl)]):=by rw [←hH2,upd_same];rfl
  have hd2:H2 dl=some (.lst []):=by rw [←hH2,upd_ne xd.symm,upd_same]
  intro kd nk
  have xk:x≠kd:=ne_of_none hx2 nk
  refine ⟨_,rfl,x,Cf,dx,_,rfl,(by rw [upd_ne xk];exact hx2),T.cl,T.nKi,(by show 2 < 1000;decide),?_⟩
  generalize hH3:upd (upd H2 kd _) x _=H3
  have b3:But x H2 H3:=fun b o hb hn=>by rw [←hH3,upd_ne hn,upd_ne (ne_of_none hb nk)];exact hb
  refine k H3 ⟨dx,rl,dl,kd,[],[],.inr rfl,.inl nr,.inl (b1.free nd xd),.inl ((b1.trans b2).free nk xk),ne_of_none hr1 nd,?_,b3 _ _ (b2 _ _ hr1 xr.symm) xr.symm,b3 _ _ hd2 xd.symm,?_,Knd.nil,.nil⟩ ((b1.trans b2).trans b3)
  ·rw [←hH3,upd_same];rfl
  ·rw [←hH3,upd_ne xk.symm,upd_same]
theorem ok_Format_highest {f Cf Cd Ca:Addr} {fd:FuncData} (F:Fun K "highest_argument" "Format.highest_argument" s_Format_highest_argument f fd) (T:TFm K mg Cf):FnOk P w K mg base CX0 1 f fd ["self"] (spHighest Cf Cd Ca):=by
 refine F.ok sc_Format_highest_argument (fun vs H Q E h=>?_) (fun cdv A outer s H vs Q E hr h=>?_)
 ·obtain ⟨a,N,bs,us,ws,rfl,_⟩:=h
  rfl
 ·obtain ⟨a,N,bs,us,ws,rfl,⟨dx,rl,dl,kd,ds,kvs,h⟩,h0,q⟩:=h
  refine ⟨_,pss_one (ps_ret (pe_maxd (pe_callTy (call_list_keys rfl) (by rfl) T.list boot_list (pa_cons (pe_fld (pv 0) rfl) pa_nil)) pe_int T.max)),?_⟩
  refine ⟨_,rfl,a,Cf,dx,_,_,rfl,h.ha,T.cl,T.nKi,rfl,kd,kvs,rfl,h.hk,fun l nl=>?_⟩
  refine ⟨l,_,0,rfl,rfl,SqL.of (by rw [upd_same,h.kn.keys]),?_⟩
  rw [h.kn.max h0]
  exact q _ fun b o hb=>by rw [upd_ne (ne_of_none hb nl)];exact hb
theorem ok_Format_kind_of {f Cf Cd Ca:Addr} {fd:FuncData} (F:Fun K "kind_of" "Format.kind_of" s_Format_kind_of f fd) (T:TFm K mg Cf):FnOk P w K mg base CX0 1 f fd ["self","argument"] (spKindOf Cf Cd Ca):=by
 refine F.ok sc_Format_kind_of (fun vs H Q E h=>?_) (fun cdv A outer s H vs Q E hr h=>?_)
 ·obtain ⟨a,N,bs,us,ws,n,rfl,_⟩:=h
  rfl
 ·obtain ⟨a,N,bs,us,ws,n,rfl,⟨dx,rl,dl,kd,ds,kvs,h⟩,q⟩:=h
  refine ⟨_,pss_one (ps_ret (pe_dget2 (hu_of hr) (pe_fld (pv 0) rfl) (pv 1) pe_int ⟨rfl,rfl,rfl,rfl⟩)),?_⟩
  refine ⟨_,rfl,a,Cf,dx,_,_,rfl,h.ha,T.cl,T.nKi,rfl,kd,rfl,.inl ⟨_,.inl h.hk⟩,_,rfl,_,DGet.k (k:=Sum.inl (n:Int)) h.hk,?_⟩
  rw [h.kn.get n]
  exact q
theorem ok_Format_directive_at {f Cf Cd Ca xd:Addr} {fd:FuncData} (F:Fun K "directive_at" "Format.directive_at" s_Format_directive_at f fd) (T:TFm K mg Cf) (cX:CalX0 K mg xd "NoDirective"):FnOk P w K mg base (CXe P w) 1 f fd ["self","index"] (spDirAt Cf Cd Ca xd):=by
 refine F.okx sc_Format_directive_at (fun vs H Q E h=>?_) (fun cdv A outer s H vs Q E hr h=>?_)
 ·obtain ⟨a,N,bs,us,ws,n,rfl,_⟩:=h
  rfl
 ·obtain ⟨a,N,bs,us,ws,n,rfl,⟨dx,rl,dl,kd,ds,kvs,h⟩,qo,qe⟩:=h
  refine ⟨_,pss_cons (ps_if (pt_cmpR op_ge (pv 1) (pe_callB call_len_seq (by rfl) T.len PySem.boot_len (pa_cons (pe_fld (pv 0) rfl) pa_nil)) (nomark _)) (pss_one (ps_raise0 cX leave_ok)) pss_nil)
   (pss_one (ps_ret (pe_ix ix_list (pe_fld (pv 0) rfl) (pv 1) (fun _ _=>rfl)))),?_⟩
  refine ⟨_,rfl,_,rfl,a,Cf,dx,_,_,rfl,h.ha,T.cl,T.nDir,rfl,dl,_,rfl,.inl (SqL.of h.hd),_,_,rfl,rfl,_,rfl,?_⟩
  have lds:=h.us.length
  rw [List.length_map]
  by_cases hn:n < us.length
  ·refine iteB (c:=false) (decide_eq_false (by omega)) (iteF ?_)
   obtain ⟨x,hx⟩:∃x,ds[n]?=some x:=⟨_,List.getElem?_eq_getElem (by omega)⟩
   obtain ⟨u,hu,ua⟩:=pgetL h.us hx
   refine ⟨_,rfl,a,Cf,dx,_,_,rfl,h.ha,T.cl,T.nDir,rfl,_,rfl,dl,_,_,_,rfl,rfl,SqL.of h.hd,atI_nat (j:=n) (v:=.ref x) (by rw [List.getElem?_map,hx];rfl),?_⟩
   exact qo u x hu (DirG.sub ua fun b nb=>nb.1)
  ·refine iteB (c:=true) (decide_eq_true (by omega)) (iteT ?_)
   exact fun e H2 g1 g2=>qe (List.getElem?_eq_none (by omega)) H2 g2
end
end Fm
namespace Fm
open PySem PySem.Spec PyProof.Rows L2
open Fc (Bytes Size Len Conv Use)
def headOk (us:List Use) (d:Fc.Dir):Bool:=match us with
 | []=>true
 | u::_=>u.dir.pos.isSome==d.pos.isSome
def spFitsIn (Cf Cd Ca:Addr):Sp:=fun vs H Q _=>∃(a x:Addr) (N N2:Addr→Prop) (bs:Bytes) (us:List Use) (ws:List (Nat×Nat)) (d:Fc.Dir) (place size arg wa pa:Nat),vs=[.ref a,.ref x]∧FmtAt Cf Cd Ca N H a bs us ws∧DirG Cd Ca N2 H x d place size arg wa pa∧us.length≤32∧
 ∀H',Same H H'→Q (.bl (decide (us.length < 32)&&headOk us d)) H'
def Out (N:Addr→Prop) (H H':Hp):Prop:=∀b o,¬N b→H b=some o→H' b=some o
theorem Out.trans {N:Addr→Prop} {H H1 H2:Hp} (x:Out N H H1) (y:Out N H1 H2):Out N H H2:=fun b o n h=>y b o n (x b o n h)
theorem Same.out {N:Addr→Prop} {H H1:Hp} (x:Same H H1):Out N H H1:=fun b o _ h=>x b o h
theorem Out.sub {N N':Addr→Prop} {H H1:Hp} (x:Out N H H1) (k:∀b,N b→N' b):Out N' H H1:=fun b o n h=>x b o (fun z=>n (k b z)) h
theorem out_upd {N:Addr→Prop} {a:Addr} {o:HO} {H:Hp} (n:N a):Out N H (upd H a o):=fun b u nb h=>by
 have:b≠a:=fun z=>nb (z▸n)
 rw [upd_ne this];exact h
def spOrder (Cf Cd Ca:Addr):Sp:=fun vs H Q _=>∃(a x:Addr) (N Nx:Addr→Prop) (bs:Bytes) (us:List Use) (ws:List (Nat×Nat)) (d:Fc.Dir) (place size:Nat),vs=[.ref a,.ref x]∧FmtAt Cf Cd Ca N H a bs us ws∧(∀y∈ws,y.2≠0)∧DirG Cd Ca Nx H x d place size 0 (szArg d.width) (szArg d.prec)∧
 d.pos=none∧starsOk d=true∧∀k H',k=maxOf ws + 1→DirG Cd Ca Nx H' x d place size (kP k d) ((Fc.sizeArg k d.width).getD 0) ((Fc.sizeArg (kW k d) d.prec).getD 0)→Out Nx H H'→Q .non H'
section
variable {P:Program} {w:World} {K:PySem.W.Frag} {mg:Str→Option Value} {base:Heap}
theorem ok_fits_in {f Cf Cd Ca:Addr} {fd:FuncData} (F:Fun K "fits_in" "fits_in" s_fits_in f fd) (T:TFm K mg Cf) (TD:TDr K Cd):FnOk P w K mg base CX0 1 f fd ["found","directive"] (spFitsIn Cf Cd Ca):=by
 refine F.ok sc_fits_in (fun vs H Q E h=>?_) (fun cdv A outer s H vs Q E hr h=>?_)
 ·obtain ⟨a,x,N,N2,bs,us,ws,d,place,size,arg,wa,pa,rfl,_⟩:=h
  rfl
 ·obtain ⟨a,x,N,N2,bs,us,ws,d,place,size,arg,wa,pa,rfl,⟨dx,rl,dl,kd,ds,kvs,h⟩,⟨_,d2,fl,wd,pr,_,_,_,_,hx,_⟩,h32,q⟩:=h
  refine ⟨_,pss_cons (ps_if (pt_cmpR op_eq (pe_callB call_len_seq (by rfl) T.len PySem.boot_len (pa_cons (pe_fld (pv 0) rfl) pa_nil)) (pe_gi T.MOST) (nomark _)) (pss_one (ps_ret pe_bl)) pss_nil)
   (pss_one (ps_ret (pe_or (pe_cmpR (op_eqE (Nat.lt_of_succ_lt (hu_of hr))) (pe_fld (pv 0) rfl) (pe_lst pa_nil) (nomark _))
    (pe_one (pe_cmpR op_eq (pe_fld (pe_ix ix_list (pe_fld (pv 0) rfl) pe_int (fun _ _=>rfl)) rfl) (pe_fld (pv 1) rfl) (nomark _)))))),?_⟩
  have lds:=h.us.length
  refine ⟨_,rfl,a,Cf,dx,_,_,rfl,h.ha,T.cl,T.nDir,rfl,dl,_,rfl,.inl (SqL.of h.hd),rfl,_,rfl,?_⟩
  rw [List.length_map]
  by_cases hl:us.length < 32
  ·refine iteB (c:=false) (decide_eq_false (by intro z;have:=V.int.inj z;omega)) (iteF ?_)
   rw [decide_eq_true hl,Bool.true_and] at q
   refine ⟨_,rfl,a,Cf,dx,_,_,rfl,h.ha,T.cl,T.nDir,rfl,Nat.zero_le _,fun l nl=>?_⟩
   have s1:Same H (upd H l (.lst [])):=fun b o hb=>by rw [upd_ne (ne_of_none hb nl)];exact hb
   refine ⟨dl,l,_,_,rfl,rfl,SqL.of (s1 _ _ h.hd),SqL.of upd_same,?_,_,rfl,?_⟩
   ·cases ds with
    | nil=>exact .inr ⟨rfl,rfl⟩
    | cons=>exact .inl (by simp)
   ·cases hd:ds with
    | nil=>
     rw [hd] at lds
     have:us=[]:=List.length_eq_zero_iff.mp lds.symm
     rw [this] at q
     exact iteT (q _ s1)
    | cons x0 r=>
     have hus:=h.us
     rw [hd] at hus
     cases hus with
     | cons r0 t0=>
      rename_i u0 us'
      obtain ⟨_,d3,fl3,wd3,pr3,_,_,_,_,hx0,_⟩:=r0
      refine iteB (c:=false) (by simp) (iteF ?_)
      refine ⟨_,rfl,a,Cf,dx,_,_,rfl,s1 _ _ h.ha,T.cl,T.nDir,rfl,dl,_,_,_,rfl,rfl,SqL.of (s1 _ _ h.hd),atI_nat (j:=0) (v:=.ref x0) (by rw [hd];rfl),x0,Cd,d3,_,_,rfl,s1 _ _ hx0,TD.cl,TD.nBy,rfl,_,rfl,x,Cd,d2,_,_,rfl,s1 _ _ hx,TD.cl,TD.nBy,rfl,rfl,?_⟩
      have:decide (V.bl u0.dir.pos.isSome=V.bl d.pos.isSome)=headOk (u0::us') d:=by
       show _=(u0.dir.pos.isSome==d.pos.isSome)
       cases u0.dir.pos.isSome<;>cases d.pos.isSome<;>rfl
      rw [this]
      exact q _ s1
  ·have e:us.length=32:=by omega
   refine iteB (c:=true) (decide_eq_true (by rw [lds,e];rfl)) (iteT ?_)
   rw [decide_eq_false hl,Bool.false_and] at q
   exact q H fun _ _ h=>h
def ip (d:Fc.Dir):Nat:=if szStar d.width=true then 1 else 0
theorem stars_get {d:Fc.Dir} {w p z:Addr} {i:Nat} (h:(starsOf d w p)[i]?=some z):(i=0∧szStar d.width=true∧z=w)∨(i=ip d∧szStar d.prec=true∧z=p):=by
 unfold starsOf at h
 unfold ip
 cases hw:szStar d.width<;>cases hp:szStar d.prec<;>rw [hw,hp] at h
 ·simp at h
 ·match i,h with
  | 0,h=>exact .inr ⟨rfl,rfl,(Option.some.inj h).symm⟩
 ·match i,h with
  | 0,h=>exact .inl ⟨rfl,rfl,(Option.some.inj h).symm⟩
 ·match i,h with
  | 0,h=>exact .inl ⟨rfl,rfl,(Option.some.inj h).symm⟩
  | 1,h=>exact .inr ⟨rfl,rfl,(Option.some.inj h).symm⟩
theorem stars_len (d:Fc.Dir) (w p:Addr):(starsOf d w p).length=ip d + (if szStar d.prec=true then 1 else 0):=by
 unfold starsOf ip
 cases szStar d.width<;>cases szStar d.prec<;>rfl
theorem ok_number_in_order {f Cf Cd Ca:Addr} {fd:FuncData} (F:Fun K "number_in_order" "number_in_order" s_number_in_order f fd) (TD:TDr K Cd) (TA:TAm K Ca) (cH:CalM P w K mg base CX0 Cf "highest_argument" ["self"] 1 (spHighest Cf Cd Ca)) (cSt:Cal P w K mg base CX0 "stars" ["directive"] 1 (spStars Cd Ca)):
 FnOk P w K mg base CX0 2 f fd ["found","directive"] (spOrder Cf Cd Ca):=by
 refine F.ok sc_number_in_order (fun vs H Q E h=>?_) (fun cdv A outer s H vs Q E hr h=>?_)
 ·obtain ⟨a,x,N,Nx,bs,us,ws,d,place,size,rfl,_⟩:=h
  rfl
 ·obtain ⟨a,x,N,Nx,bs,us,ws,d,place,size,rfl,hf,h0,⟨nx,dd,fl,wd,pr,n1,n2,n3,wp,hx,hfl,⟨dm1,hw⟩,⟨dm2,hp⟩⟩,hpos,hst,q⟩:=h
  refine ⟨_,pss_cons (ps_set (i:=2) sc_number_in_order.nd rfl (Or.inl rfl) (pe_calm0 (pv 0) cH hr pass0))
   (pss_cons (ps_for PassesOwn.never rfl (pi_list (pe_cal cSt hr pass0 (pa_cons (pv 1) pa_nil))) (pg_name (i:=3) sc_number_in_order.nd rfl (Or.inl rfl))
    (pss_cons (ps_aug (i:=2) sc_number_in_order.nd rfl (Or.inl rfl) pe_int iop_add) (pss_one (ps_fld (pv 3) (pv 2) rfl))))
   (pss_one (ps_fld (pv 1) (pe_op op_add (pv 2) pe_int) rfl))),?_⟩
  obtain ⟨dx,rl,dl,kd,ds,kvs,hX⟩:=id hf
  refine ⟨_,rfl,a,dx,_,rfl,hX.ha,rfl,a,N,bs,us,ws,rfl,hf,h0,fun H1 s1=>?_⟩
  have D1:DirX Cd Ca H1 x dd fl wd pr d place size 0 (szArg d.width) (szArg d.prec):=⟨s1 _ _ hx,s1 _ _ hfl,⟨dm1,s1 _ _ hw⟩,⟨dm2,s1 _ _ hp⟩⟩
  refine ⟨_,rfl,x,dd,fl,wd,pr,d,place,size,0,_,_,rfl,D1,fun l H2 nl hl s2=>⟨l,rfl,⟨_,SqL.of hl⟩,?_⟩⟩
  have D2:=D1.same s2
  have lw:wd≠l:=fun z=>by obtain ⟨_,_,⟨_,q⟩,_⟩:=D1;rw [z] at q;rw [q] at nl;cases nl
  have lp:pr≠l:=fun z=>by obtain ⟨_,_,_,⟨_,q⟩⟩:=D1;rw [z] at q;rw [q] at nl;cases nl
  have xw:x≠wd:=ne_of hx hw (ins_ne (by show (9:Nat)≠4;decide))
  have xp:x≠pr:=ne_of hx hp (ins_ne (by show (9:Nat)≠4;decide))
  have fw:fl≠wd:=ne_of hfl hw (by intro z;cases z)
  have fp:fl≠pr:=ne_of hfl hp (by intro z;cases z)
  generalize hm:maxOf ws=m at q ⊢
  let wa:Nat→Nat:=fun i=>if szStar d.width=true∧0 < i then m + 1 else szArg d.width
  let pa:Nat→Nat:=fun i=>if szStar d.prec=true∧ip d < i then m + ip d + 1 else szArg d.prec
  refine for_list (xs:=(starsOf d wd pr).map V.ref) (fun i σ H'=>(∃v,σ=[some (.ref a),some (.ref x),some (.int ((m + i:Nat):Int)),v])∧H' l=some (.lst ((starsOf d wd pr).map V.ref))∧DirX Cd Ca H' x dd fl wd pr d place size 0 (wa i) (pa i)∧Out Nx H H')
   ⟨⟨none,rfl⟩,hl,?_,(Same.out s1).trans (Same.out s2)⟩ (fun i σ H' _ h=>SqL.of h.2.1) (fun i y σ H' hi h=>?_) fun σ H' h=>?_
  ·simpa [wa,pa] using D2
  ·obtain ⟨⟨v,rfl⟩,h2,⟨e1,e2,⟨d3,e3⟩,⟨d4,e4⟩⟩,ho⟩:=h
   rw [List.getElem?_map] at hi
   obtain ⟨z,hz,rfl⟩:=Option.map_eq_some_iff.mp hi
   refine ⟨_,rfl,_,_,rfl,rfl,?_⟩
   have em:((m + i:Nat):Int) + 1=((m + (i + 1):Nat):Int):=by omega
   rcases stars_get hz with ⟨rfl,sw,rfl⟩ | ⟨rfl,sp,rfl⟩
   ·refine ⟨_,rfl,_,rfl,z,Ca,d3,_,rfl,e3,TA.cl,TA.nAr,(by show 4 < 1000;decide),⟨some (.ref z),by rw [←em];rfl⟩,?_,⟨?_,?_,⟨d3,?_⟩,⟨d4,?_⟩⟩,ho.trans (out_upd n2)⟩
    ·rw [upd_ne lw.symm];exact h2
    ·rw [upd_ne xw];exact e1
    ·rw [upd_ne fw];exact e2
    ·rw [upd_same]
     have:wa (0 + 1)=m + (0 + 1):=by simp [wa,sw]
     rw [this,←em]
     rfl
    ·rw [upd_ne wp.symm,e4]
     have:pa 0=pa (0 + 1):=by simp [pa,ip,sw]
     rw [this]
   ·refine ⟨_,rfl,_,rfl,z,Ca,d4,_,rfl,e4,TA.cl,TA.nAr,(by show 4 < 1000;decide),⟨some (.ref z),by rw [←em];rfl⟩,?_,⟨?_,?_,⟨d3,?_⟩,⟨d4,?_⟩⟩,ho.trans (out_upd n3)⟩
    ·rw [upd_ne lp.symm];exact h2
    ·rw [upd_ne xp];exact e1
    ·rw [upd_ne fp];exact e2
    ·rw [upd_ne wp,e3]
     have:wa (ip d)=wa (ip d + 1):=by
      cases hs:szStar d.width<;>simp [wa,ip,hs]
     rw [this]
    ·rw [upd_same]
     have:pa (ip d + 1)=m + (ip d + 1):=by simp [pa,sp];omega
     rw [this,←em]
     rfl
  ·obtain ⟨⟨v,rfl⟩,h2,⟨e1,e2,⟨d3,e3⟩,⟨d4,e4⟩⟩,ho⟩:=h
   rw [List.length_map] at e3 e4 ⊢
   refine ⟨_,rfl,_,_,rfl,rfl,_,rfl,x,Cd,dd,_,rfl,e1,TD.cl,TD.nArg,(by show 9 < 1000;decide),?_⟩
   have nxt:∀s:Size,sOk d.pos s=true→szStar s=true→s=.next:=fun s z1 z2=>by
    rw [hpos] at z1
    cases s with
    | next=>rfl
    | arg n=>cases z1
    | _=>cases z2
   rw [starsOk_eq,Bool.and_eq_true] at hst
   have nst:∀s:Size,szStar s=false→s≠.next:=fun s z e=>by subst e;cases z
   have nar:∀s:Size,szStar s=false→szArg s=0∧∀k,Fc.sizeArg k s=none:=fun s z=>by cases s<;>first | exact ⟨rfl,fun _=>rfl⟩ | cases z
   rw [stars_len] at e3 e4 ⊢
   refine q (m + 1) _ rfl ⟨nx,dd,fl,wd,pr,n1,n2,n3,wp,?_,?_,⟨d3,?_⟩,⟨d4,?_⟩⟩ (ho.trans (out_upd nx))
   ·rw [upd_same]
    have:((m + (ip d + if szStar d.prec=true then 1 else 0):Nat):Int) + 1=((kP (m + 1) d:Nat):Int):=by
     unfold kP kW ip
     cases hw':szStar d.width<;>cases hp':szStar d.prec
     ·rw [if_neg (nst _ hp'),if_neg (nst _ hw')];simp
     ·rw [if_pos (nxt _ hst.2 hp'),if_neg (nst _ hw')];simp
     ·rw [if_neg (nst _ hp'),if_pos (nxt _ hst.1 hw')];simp
     ·rw [if_pos (nxt _ hst.2 hp'),if_pos (nxt _ hst.1 hw')];simp;omega
    rw [←this]
    rfl
   ·rw [upd_ne (ne_of hfl hx (by intro z;cases z))];exact e2
   ·rw [upd_ne xw.symm,e3]
    have:wa (ip d + if szStar d.prec=true then 1 else 0)=(Fc.sizeArg (m + 1) d.width).getD 0:=by
     cases hw':szStar d.width
     ·simp [wa,hw',(nar _ hw').1,(nar _ hw').2]
     ·rw [nxt _ hst.1 hw']
      simp [wa,hw',ip,Fc.sizeArg]
    rw [this]
   ·rw [upd_ne xp.symm,e4]
    have:pa (ip d + if szStar d.prec=true then 1 else 0)=(Fc.sizeArg (kW (m + 1) d) d.prec).getD 0:=by
     cases hp':szStar d.prec
     ·simp [pa,hp',(nar _ hp').1,(nar _ hp').2]
     ·rw [nxt _ hst.2 hp']
      unfold kW
      cases hw':szStar d.width
      ·rw [if_neg (nst _ hw')];simp [pa,hp',ip,hw',Fc.sizeArg]
      ·rw [if_pos (nxt _ hst.1 hw')];simp [pa,hp',ip,hw',Fc.sizeArg]
    rw [this]
end
end Fm
namespace Fm
open PySem PySem.Spec PyProof.Rows L2
open Fc (Bytes Size Len Conv Use)
def WrongO (wf:Addr) (p:Nat) (N:Addr→Prop) (H:Hp) (E:XK):Prop:=∀(dx:Addr) (H':Hp),H' dx=some (.xd [("place",.int p)])→Out N H H'→E (.ref wf) (some dx) H'
def AddOk (us:List Use) (ws:List (Nat×Nat)) (d:Fc.Dir) (u:Use):Prop:=us.length < 32∧headOk us d=true∧Fits (ws++u.wants)
def spAdd (Cf Cd Ca wf:Addr):Sp:=fun vs H Q E=>∃(a x:Addr) (Nf Nx:Addr→Prop) (bs:Bytes) (us:List Use) (ws:List (Nat×Nat)) (d:Fc.Dir) (place k:Nat),vs=[.ref a,.ref x]∧(∀y,Nf y→¬Nx y)∧FmtAt Cf Cd Ca Nf H a bs us ws∧(∀y∈ws,y.2≠0)∧Fits ws∧us.length≤32∧ws.length≤900∧
 DirG Cd Ca Nx H x d place (Fc.spell d).length (d.pos.getD 0) (szArg d.width) (szArg d.prec)∧starsOk d=true∧(d.pos=none→k=maxOf ws + 1)∧
 (AddOk us ws d (useOf place k d)→∀H',FmtAt Cf Cd Ca (fun y=>Nf y∨Nx y) H' a bs (us++[useOf place k d]) (ws++(useOf place k d).wants)→UseAt Cd Ca Nx H' x (useOf place k d)→Out (fun y=>Nf y∨Nx y) H H'→Q .non H')∧
 (¬AddOk us ws d (useOf place k d)→WrongO wf place (fun y=>Nf y∨Nx y) H E)
theorem pairs_wants (a k:Nat) (d:Fc.Dir):pairsOf d (useOf a k d).arg ((useOf a k d).width.getD 0) ((useOf a k d).prec.getD 0)=(useOf a k d).wants:=by
 have h:∀(k:Nat) (s:Size),(if szStar s=true then [((Fc.sizeArg k s).getD 0,1)] else [])=(Fc.sizeArg k s).toList.map fun n=>(n,Fc.I32):=fun k s=>by cases s<;>rfl
 rw [useOf_wants]
 unfold pairsOf
 show (if szStar d.width=true then [((Fc.sizeArg k d.width).getD 0,1)] else [])++(if szStar d.prec=true then [((Fc.sizeArg (kW k d) d.prec).getD 0,1)] else [])++_=_
 rw [h,h]
 rfl
theorem wants_len (u:Use):u.wants.length≤3:=by
 unfold Use.wants
 cases u.width<;>cases u.prec<;>simp
theorem DirG.dict {Cd Ca:Addr} {N:Addr→Prop} {H:Hp} {x kd:Addr} {d:Fc.Dir} {place size arg wa pa:Nat} {kvs kvs':List (Key×V)} (h:DirG Cd Ca N H x d place size arg wa pa) (hk:H kd=some (.dK kvs)):DirG Cd Ca N (upd H kd (.dK kvs')) x d place size arg wa pa:=by
 obtain ⟨n,dx,fl,w,p,n1,n2,n3,ne,e1,e2,⟨d3,e3⟩,⟨d4,e4⟩⟩:=h
 refine ⟨n,dx,fl,w,p,n1,n2,n3,ne,?_,?_,⟨d3,?_⟩,⟨d4,?_⟩⟩
 ·rw [upd_ne (ne_of e1 hk (by intro z;cases z))];exact e1
 ·rw [upd_ne (ne_of e2 hk (by intro z;cases z))];exact e2
 ·rw [upd_ne (ne_of e3 hk (by intro z;cases z))];exact e3
 ·rw [upd_ne (ne_of e4 hk (by intro z;cases z))];exact e4
theorem FmtX.put {Cf Cd Ca:Addr} {N:Addr→Prop} {H:Hp} {a dx rl dl kd:Addr} {ds:List Addr} {kvs kvs':List (Key×V)} {bs:Bytes} {us:List Use} {ws ws':List (Nat×Nat)} (h:FmtX Cf Cd Ca N H a dx rl dl kd ds kvs bs us ws) (k:Knd kvs' ws'):
 FmtX Cf Cd Ca N (upd H kd (.dK kvs')) a dx rl dl kd ds kvs' bs us ws' where
 na:=h.na
 nr:=h.nr
 nd:=h.nd
 nk:=h.nk
 ne:=h.ne
 ha:=by rw [upd_ne (ne_of h.ha h.hk (by intro z;cases z))];exact h.ha
 hr:=by rw [upd_ne (ne_of h.hr h.hk (by intro z;cases z))];exact h.hr
 hd:=by rw [upd_ne (ne_of h.hd h.hk (by intro z;cases z))];exact h.hd
 hk:=upd_same
 kn:=k
 us:=pmono h.us fun x u _ q=>DirG.dict q h.hk
theorem fits_of_take {ws us:List (Nat×Nat)} {i:Nat} (h:Fits (ws++us)):Fits (ws++us.take i):=by
 rw [←List.take_append_drop i us,←List.append_assoc] at h
 exact fits_prefix h
section
variable {P:Program} {w:World} {K:PySem.W.Frag} {mg:Str→Option Value} {base:Heap}
theorem ok_add_directive {f Cf Cd Ca wf:Addr} {fd:FuncData} (F:Fun K "add_directive" "add_directive" s_add_directive f fd) (T:TFm K mg Cf) (TD:TDr K Cd) (S:TSd K mg) (cFits:Cal P w K mg base CX0 "fits_in" ["found","directive"] 1 (spFitsIn Cf Cd Ca))
 (cOrd:Cal P w K mg base CX0 "number_in_order" ["found","directive"] 2 (spOrder Cf Cd Ca)) (cPairs:Cal P w K mg base CX0 "taken_pairs" ["directive"] 2 (spPairs Cd Ca)) (cWF:CalX P w K mg base wf "WrongFormat" 1 "place"):
 FnOk P w K mg base (CXe P w) 4 f fd ["found","directive"] (spAdd Cf Cd Ca wf):=by
 refine F.okx sc_add_directive (fun vs H Q E h=>?_) (fun cdv A outer s H vs Q E hr h=>?_)
 ·obtain ⟨a,x,Nf,Nx,bs,us,ws,d,place,k,rfl,_⟩:=h
  rfl
 ·obtain ⟨a,x,Nf,Nx,bs,us,ws,d,place,k,rfl,disj,hf,h0,hfit,h32,hwl,hdir,hst,hk,qo,qe⟩:=h
  have hr1:Room 1 _:=hr.mono (by decide)
  have hr2:Room 2 _:=hr.mono (by decide)
  refine ⟨_,pss_cons (ps_if (pt_not (pt_val (pe_cal cFits hr1 pass0 (pa_cons (pv 0) (pa_cons (pv 1) pa_nil))))) (pss_one (ps_raise1 cWF hr2 (pe_fld (pv 1) rfl) leave_ok)) pss_nil)
   (pss_cons (ps_if (pt_not (pt_val (pe_fld (pv 1) rfl))) (pss_one (ps_expr (pe_cal cOrd hr2 pass0 (pa_cons (pv 0) (pa_cons (pv 1) pa_nil))))) pss_nil).mono
   (pss_cons (ps_for PassesOwn.leaving rfl (pi_list (pe_cal cPairs hr2 pass0 (pa_cons (pv 1) pa_nil))) (pg_tup rfl (pgs_cons (pg_name (i:=2) sc_add_directive.nd rfl (Or.inl rfl)) (pgs_cons (pg_name (i:=3) sc_add_directive.nd rfl (Or.inl rfl)) pgs_nil)))
    (pss_cons (ps_if (pw_or (pt_cmpR op_gt (pv 2) (pe_gi S.HARG) (nomark _)) (pw_or1 (pt_cmpR op_ne (pe_dget2 (hu_of hr) (pe_fld (pv 0) rfl) (pv 2) (pv 3) ⟨rfl,rfl,rfl,rfl⟩) (pv 3) (nomark _)))).pt (pss_one (ps_raise1 cWF hr2 (pe_fld (pv 1) rfl) leave_ok)) pss_nil)
    (pss_one (ps_dput (hu_of hr) (pe_fld (pv 0) rfl) (pv 2) (pv 3) rfl))))
   (pss_one (ps_expr (pe_bm PySem.F.plainAttrs_list PySem.F.slot_list_append PySem.F.type_list_append mt_append (pe_fld (pv 0) rfl) (pa_cons (pv 1) pa_nil)))))),?_⟩
  generalize hu:useOf place k d=u at qo qe
  obtain ⟨nx,dd,fl,wd,pr,n1,n2,n3,wp,hx,hfl,⟨dm1,hw⟩,⟨dm2,hp⟩⟩:=id hdir
  refine ⟨_,rfl,_,rfl,a,x,Nf,Nx,bs,us,ws,d,place,_,_,_,_,rfl,hf,hdir,h32,fun H1 s1=>⟨_,rfl,?_⟩⟩
  cases hfi:(decide (us.length < 32)&&headOk us d) with
  | false=>
   refine iteT ⟨_,rfl,x,Cd,dd,_,_,rfl,s1 _ _ hx,TD.cl,TD.nPlace,rfl,fun ae dxe H2 g1 g2 g3=>qe (fun z=>?_) dxe H2 g2 (Same.out fun b o hb=>g3 b o (s1 b o hb))⟩
   rw [decide_eq_true z.1,z.2.1] at hfi
   cases hfi
  | true=>
   rw [Bool.and_eq_true,decide_eq_true_iff] at hfi
   refine iteF ?_
   have f1:FmtAt Cf Cd Ca Nf H1 a bs us ws:=hf.keep (Same.keep s1)
   have d1:=hdir.keep (Same.keep s1)
   have hd:u.dir=d:=by rw [←hu];rfl
   have hat:u.at_=place:=by rw [←hu];rfl
   refine ⟨fun σ' H'=>σ'=[some (.ref a),some (.ref x),none,none]∧UseAt Cd Ca Nx H' x u∧Out Nx H H',?_,?_⟩
   ·refine ⟨_,rfl,x,Cd,dd,_,_,rfl,s1 _ _ hx,TD.cl,TD.nBy,rfl,_,rfl,?_⟩
    cases hpos:d.pos with
    | some n=>
     refine iteF ⟨rfl,?_,Same.out s1⟩
     have sz:∀(k:Nat) (s:Size),sOk d.pos s=true→(Fc.sizeArg k s).getD 0=szArg s:=fun k s z=>by
      rw [hpos] at z
      cases s<;>first | rfl | cases z
     rw [starsOk_eq,Bool.and_eq_true] at hst
     unfold UseAt
     rw [←hu]
     show DirG Cd Ca Nx H1 x d place (Fc.spell d).length (argOf k d) ((Fc.sizeArg k d.width).getD 0) ((Fc.sizeArg (kW k d) d.prec).getD 0)
     rw [sz _ _ hst.1,sz _ _ hst.2]
     have:argOf k d=d.pos.getD 0:=by unfold argOf;rw [hpos];rfl
     rw [this]
     exact d1
    | none=>
     refine iteT ⟨_,rfl,_,rfl,a,x,Nf,Nx,bs,us,ws,d,place,(Fc.spell d).length,rfl,f1,h0,?_,hpos,hst,fun k' H2 ek g1 g2=>⟨rfl,?_,(Same.out s1).trans g2⟩⟩
     ·rw [hpos] at d1;exact d1
     ·unfold UseAt
      rw [←hu]
      show DirG Cd Ca Nx H2 x d place (Fc.spell d).length (argOf k d) ((Fc.sizeArg k d.width).getD 0) ((Fc.sizeArg (kW k d) d.prec).getD 0)
      have e:k'=k:=by rw [ek,hk hpos]
      subst e
      have:argOf k' d=kP k' d:=by unfold argOf;rw [hpos]
      rw [this]
      exact g1
   ·rintro σ2 H2 ⟨rfl,ua,o2⟩
    have f2:FmtAt Cf Cd Ca Nf H2 a bs us ws:=hf.keep fun b o nb hb=>o2 b o (disj b nb) hb
    obtain ⟨nx',d3,fl3,wd3,pr3,m1,m2,m3,wp3,hx3,hfl3,hw3,hp3⟩:=id ua
    have D3:DirX Cd Ca H2 x d3 fl3 wd3 pr3 u.dir u.at_ (Fc.spell u.dir).length u.arg (u.width.getD 0) (u.prec.getD 0):=⟨hx3,hfl3,hw3,hp3⟩
    refine ⟨_,rfl,x,d3,fl3,wd3,pr3,_,_,_,_,_,_,rfl,D3,fun l ts H3 nl hl ht hn s3=>⟨l,rfl,⟨_,SqL.of hl⟩,?_⟩⟩
    have epw:pairsOf u.dir u.arg (u.width.getD 0) (u.prec.getD 0)=u.wants:=by
     have:=pairs_wants place k d
     rw [hu] at this
     rw [hd]
     exact this
    rw [epw] at ht
    obtain ⟨dx,rl,dl,kd,ds,kvs,f3⟩:=f2.keep (Same.keep s3)
    have ua3:UseAt Cd Ca Nx H3 x u:=DirG.keep ua (Same.keep s3)
    refine for_list (xs:=ts.map V.ref) (fun i σ H'=>(∃v1 v2,σ=[some (.ref a),some (.ref x),v1,v2])∧H' l=some (.lst (ts.map V.ref))∧Paired (TupAt H') ts u.wants∧(∃kvs',FmtX Cf Cd Ca Nf H' a dx rl dl kd ds kvs' bs us (ws++u.wants.take i))∧Fits (ws++u.wants.take i)∧UseAt Cd Ca Nx H' x u∧Out (fun y=>Nf y∨Nx y) H H')
     ⟨⟨none,none,rfl⟩,hl,ht,⟨kvs,by rw [List.take_zero,List.append_nil];exact f3⟩,by rw [List.take_zero,List.append_nil];exact hfit,ua3,(o2.sub fun b z=>.inr z).trans (Same.out s3)⟩ (fun i σ H' _ h=>SqL.of h.2.1) (fun i y σ H' hi h=>?_) fun σ H' h=>?_
    ·obtain ⟨⟨v1,v2,rfl⟩,h2,h3,⟨kv,h4⟩,h5,h6,h7⟩:=h
     rw [List.getElem?_map] at hi
     obtain ⟨t,hti,rfl⟩:=Option.map_eq_some_iff.mp hi
     obtain ⟨⟨g,ty⟩,hg,tt⟩:=pgetL h3 hti
     have htk:=take_snoc hg
     have h0':∀y∈ws++u.wants.take i,y.2≠0:=fun y hy=>by
      rcases List.mem_append.mp hy with z | z
      ·exact h0 y z
      ·exact wants_ne u y (List.mem_of_mem_take z)
     have hty:ty≠0:=wants_ne u (g,ty) (List.mem_of_getElem? hg)
     obtain ⟨nx6,d6,fl6,wd6,pr6,_,_,_,_,hx6,_⟩:=id h6
     have bad:¬okTake (ws++u.wants.take i) (g,ty)→¬AddOk us ws d u:=fun no z=>no (by
      have:=fits_of_take (i:=i + 1) z.2.2
      rw [htk,←List.append_assoc] at this
      exact (fits_snoc h5 h0').mp this)
     have eplace:((u.at_:Nat):Int)=(place:Int):=by rw [hat]
     refine ⟨t,_,rfl,SqT.of tt,rfl,_,_,rfl,_,_,rfl,rfl,?_⟩
     refine ⟨_,rfl,_,_,rfl,rfl,_,rfl,?_⟩
     by_cases h16:g≤16
     ·refine iteB (c:=false) (decide_eq_false (by omega)) (iteF ?_)
      refine ⟨_,rfl,a,Cf,dx,_,_,rfl,h4.ha,T.cl,T.nKi,rfl,kd,rfl,.inl ⟨_,.inl h4.hk⟩,_,rfl,_,rfl,_,DGet.k (k:=Sum.inl (g:Int)) h4.hk,_,rfl,?_⟩
      rw [h4.kn.2.1 g]
      by_cases ht0:tableOf (ws++u.wants.take i) g=0∨tableOf (ws++u.wants.take i) g=ty
      ·have ev:(if tableOf (ws++u.wants.take i) g=0 then none else some (V.int (tableOf (ws++u.wants.take i) g:Nat))).getD (V.int ty)=V.int ty:=by
        split
        ·rfl
        ·rename_i z;rw [ht0.resolve_left z];rfl
       rw [ev]
       have ok:okTake (ws++u.wants.take i) (g,ty):=⟨h16,ht0⟩
       refine ⟨rfl,_,rfl,iteB (c:=false) (by simp) (iteF ?_)⟩
       refine ⟨_,rfl,_,rfl,a,Cf,dx,_,_,rfl,h4.ha,T.cl,T.nKi,rfl,_,rfl,kd,_,rfl,DPut.k (k:=Sum.inl (g:Int)) h4.hk (small1000 ?_),⟨_,_,rfl⟩,?_,?_,⟨putK kv (Sum.inl (g:Int)) (.int (ty:Nat)),?_⟩,?_,?_,?_⟩
       ·have:=h4.kn.2.2
        have l3:=wants_len u
        rw [List.length_append,List.length_take] at this
        omega
       ·rw [upd_ne (ne_of h2 h4.hk (by intro z;cases z))];exact h2
       ·exact pmono h3 fun b y _ q=>by unfold TupAt at q ⊢;rw [upd_ne (ne_of q h4.hk (by intro z;cases z))];exact q
       ·rw [htk,←List.append_assoc]
        exact h4.put (h4.kn.put h0' hty ok)
       ·rw [htk,←List.append_assoc]
        exact (fits_snoc h5 h0').mpr ok
       ·exact DirG.dict h6 h4.hk
       ·exact h7.trans (out_upd (.inl h4.nk))
      ·have hz:tableOf (ws++u.wants.take i) g≠0:=fun z=>ht0 (.inl z)
       rw [if_neg hz]
       refine ⟨rfl,_,rfl,iteB (c:=true) ?_ (iteT ?_)⟩
       ·show (!decide (V.int _=V.int _))=true
        rw [decide_eq_false]
        ·rfl
        ·intro z
         have:=V.int.inj z
         exact ht0 (.inr (by omega))
       ·refine ⟨_,rfl,x,Cd,d6,_,_,rfl,hx6,TD.cl,TD.nPlace,rfl,fun ae dxe H2 g1 g2 g3=>qe (bad fun z=>ht0 z.2) dxe H2 (by rw [←eplace];exact g2) (h7.trans (Same.out g3))⟩
     ·refine iteB (c:=true) (decide_eq_true (by omega)) (iteT (iteT ?_))
      exact ⟨_,rfl,x,Cd,d6,_,_,rfl,hx6,TD.cl,TD.nPlace,rfl,fun ae dxe H2 g1 g2 g3=>qe (bad fun z=>h16 z.1) dxe H2 (by rw [←eplace];exact g2) (h7.trans (Same.out g3))⟩
    ·obtain ⟨⟨v1,v2,rfl⟩,h2,h3,⟨kv,h4⟩,h5,h6,h7⟩:=h
     rw [List.length_map,h3.length,List.take_length] at h4 h5
     have lds:=h4.us.length
     refine ⟨_,rfl,a,Cf,dx,_,_,rfl,h4.ha,T.cl,T.nDir,rfl,.inl ⟨rfl,_,SqL.of h4.hd⟩,_,rfl,dl,_,_,rfl,rfl,h4.hd,small1000 (by rw [List.length_map];omega),?_⟩
     have kp:∀{N:Addr→Prop} {o:HO},Keep (fun y=>N y∧y≠dl) H' (upd H' dl o):=fun b o nb hb=>by rw [upd_ne nb.2];exact hb
     have h6':DirG Cd Ca (fun y=>Nx y∧y≠dl) H' x u.dir u.at_ (Fc.spell u.dir).length u.arg (u.width.getD 0) (u.prec.getD 0):=DirG.sub h6 fun b nb=>⟨nb,fun z=>disj b (z▸h4.nd) nb⟩
     refine qo ⟨hfi.1,hfi.2,h5⟩ _ ⟨dx,rl,dl,kd,ds++[x],kv,.inl h4.na,.inl h4.nr,.inl h4.nd,.inl h4.nk,h4.ne,?_,?_,?_,?_,h4.kn,?_⟩ ?_ (h7.trans (out_upd (.inl h4.nd)))
     ·rw [upd_ne (ne_of h4.ha h4.hd (by intro z;cases z))];exact h4.ha
     ·rw [upd_ne h4.ne];exact h4.hr
     ·rw [upd_same,List.map_append];rfl
     ·rw [upd_ne (ne_of h4.hk h4.hd (by intro z;cases z))];exact h4.hk
     ·exact Paired.snoc (pmono h4.us fun b v _ q=>DirG.sub (DirG.keep q kp) fun b nb=>⟨.inl nb.1,nb.2⟩) (DirG.sub (DirG.keep h6' kp) fun b nb=>⟨.inr nb.1,nb.2⟩)
     ·exact DirG.sub (DirG.keep h6' kp) fun b nb=>nb.1
end
end Fm
namespace Fm
open PySem PySem.Spec PyProof.Rows L2
open Fc (Bytes Size Len Conv Use Piece uses spelling spell formatIn together)
def rEq1 (K:PySem.W.Frag):R2:=fun x y H Q=>∃a b,∃o:Option Int,∃j:Int,x=.ref a∧y=.ref b∧SqL K H a (o.toList.map V.int)∧SqL K H b [.int j]∧Q (.bl (decide (o=some j))) H
theorem op_eq1 {X:Cx} (hu:X.A.units + 64 < cLine):OpR X (compareOp .Eq) (rEq1 X.K):=by
 intro pins s σ H x y v u Q I rx ry ⟨a,b,o,j,ex,ey,ha,hb,q⟩
 refine op_eqD hu pins s σ H x y v u Q I rx ry ⟨.list (o.toList.map .int),.list [.int j],?_,?_,?_,rfl,?_⟩
 ·rw [ex]
  refine .lst ha ?_
  cases o with
  | none=>exact .nil
  | some i=>exact .cons (.int i) .nil
 ·rw [ey]
  exact .lst hb (.cons (.int j) .nil)
 ·cases o<;>rfl
 ·have:PyData.eqv (.list (o.toList.map .int)) (.list [.int j])=decide (o=some j):=by
   cases o with
   | none=>rfl
   | some i=>
    show ((i==j)&&true)=_
    rw [Bool.and_true,Bool.beq_eq_decide_eq]
    simp
  rw [this]
  exact q
def WrongS (wf:Addr) (p:Nat) (H:Hp) (E:XK):Prop:=∀(dx:Addr) (H':Hp),H' dx=some (.xd [("place",.int p)])→Same H H'→E (.ref wf) (some dx) H'
def spReadDir (Cd Ca wf:Addr):Sp:=fun vs H Q E=>∃(rl:Addr) (p:Nat) (bs b:Bytes),vs=[.ref rl,.int p]∧RowAt H rl bs∧p + 1≤bs.length∧bs.length≤1000∧bs.drop (p + 1)=b∧
 (∀d r,scanDir b=some (d,r)→rightFlags d=true→∀x H',DirG Cd Ca (fun y=>H y=none) H' x d p (spell d).length (d.pos.getD 0) (szArg d.width) (szArg d.prec)→Same H H'→Q (.ref x) H')∧
 (((scanDir b).filter fun x=>rightFlags x.1)=none→WrongS wf p H E)
def spReadFmt (Cf Cd Ca wf:Addr):Sp:=fun vs H Q E=>∃(rl:Addr) (bs:Bytes),vs=[.ref rl]∧RowAt H rl bs∧bs.length≤1000∧
 (∀l,formatIn bs=.ok l→∀a H',FmtAt Cf Cd Ca (fun y=>H y=none) H' a bs (uses l) (Fc.wants l)→Same H H'→Q (.ref a) H')∧(∀p,formatIn bs=.error p→WrongS wf p H E)
theorem starsOk_of {d:Fc.Dir} (h:rightFlags d=true):starsOk d=true:=by
 rw [right_parts] at h
 simp only [Bool.and_eq_true] at h
 exact h.2.2.2.2.2
theorem wants_length (l:List Piece):(Fc.wants l).length≤3 * (uses l).length:=by
 unfold Fc.wants
 generalize uses l=us
 induction us with
 | nil=>exact Nat.le_refl _
 | cons u us ih=>
  rw [List.flatMap_cons,List.length_append,List.length_cons]
  have:=wants_len u
  omega
def kOf (l:List Piece) (d:Fc.Dir):Nat:=if d.pos=none then maxOf (Fc.wants l) + 1 else nextK 1 l
theorem heads (l:List Piece) (d:Fc.Dir):headOk (uses l) d=true↔∀d0,(Fc.dirsOf l).head?=some d0→d0.pos.isSome=d.pos.isSome:=by
 rw [←uses_dirs]
 cases uses l with
 | nil=>simp [headOk]
 | cons u us=>simp [headOk]
theorem kOf_eq {l:List Piece} {d:Fc.Dir} (ht:together l=true) (hs:∀d∈Fc.dirsOf l,starsOk d=true) (hh:headOk (uses l) d=true):kOf l d=nextK 1 l:=by
 unfold kOf
 split
 ·rename_i hp
  have h1:=(heads l d).mp hh
  rw [order_next _ l rfl fun d0 hd0=>⟨?_,hs d0 hd0⟩]
  ·rfl
  ·rcases ((together_iff l).mp ht).1 with z | z
   ·exact Option.isNone_iff_eq_none.mp (z d0 hd0)
   ·cases hl:Fc.dirsOf l with
    | nil=>rw [hl] at hd0;cases hd0
    | cons e r=>
     have a1:=h1 e (by rw [hl];rfl)
     have a2:=z e (by rw [hl];simp)
     rw [a2,hp] at a1
     cases a1
 ·rfl
theorem add_iff {l:List Piece} {d:Fc.Dir} (ht:together l=true) (hs:∀d∈Fc.dirsOf l,starsOk d=true):AddOk (uses l) (Fc.wants l) d (useOf (spelling l).length (kOf l d) d)↔together (l++[.dir d])=true:=by
 rw [together_dir d ht,←heads]
 unfold AddOk
 constructor
 ·rintro ⟨h1,h2,h3⟩
  rw [kOf_eq ht hs h2] at h3
  exact ⟨h2,h1,h3⟩
 ·rintro ⟨h2,h1,h3⟩
  rw [kOf_eq ht hs h2]
  exact ⟨h1,h2,h3⟩
section
variable {P:Program} {w:World} {K:PySem.W.Frag} {mg:Str→Option Value} {base:Heap}
theorem ok_read_directive {f Cd Ca C wf:Addr} {fd:FuncData} (F:Fun K "read_directive" "read_directive" s_read_directive f fd) (cSc:CalC P w K mg base C "Scanner" ["self","row","place"] 1 (spScInit C)) (cScan:Cal P w K mg base (CXe P w) "scan_directive" ["scanner"] 8 (spScanDir Cd Ca C wf))
 (cRight:Cal P w K mg base CX0 "is_right" ["directive"] 3 (spRight Cd Ca)) (cWF:CalX P w K mg base wf "WrongFormat" 1 "place"):FnOk P w K mg base (CXe P w) 9 f fd ["row","place"] (spReadDir Cd Ca wf):=by
 refine F.okx sc_read_directive (fun vs H Q E h=>?_) (fun cdv A outer s H vs Q E hr h=>?_)
 ·obtain ⟨rl,p,bs,b,rfl,_⟩:=h
  rfl
 ·obtain ⟨rl,p,bs,b,rfl,hrow,hp,hbs,eb,qo,qe⟩:=h
  have hr2:Room 2 _:=hr.mono (by decide)
  have hr3:Room 3 _:=hr.mono (by decide)
  refine ⟨_,pss_cons (ps_set (i:=2) sc_read_directive.nd rfl (Or.inl rfl) (pe_cal cScan hr leave_ok.passes (pa_cons (pe_calc cSc hr2 (pa_cons (pv 0) (pa_cons (pv 1) pa_nil))) pa_nil)))
   (pss_cons (ps_if (pt_not (pt_val (pe_cal cRight hr3 pass0 (pa_cons (pv 2) pa_nil)))) (pss_one (ps_raise1 cWF hr2 (pv 1) leave_ok)) pss_nil)
   (pss_one (ps_ret (pv 2)))),?_⟩
  refine ⟨_,rfl,_,rfl,fun a dxx na nd nad=>?_⟩
  refine ⟨a,dxx,rl,p,rfl,upd_same,fun H1 sc1 k1=>⟨rfl,?_⟩⟩
  have s1:Same H H1:=amNew na nd k1
  refine ⟨a,rl,p,bs,b,rfl,sc1,hp,eb,s1 _ _ hrow,hbs,fun d r ed x H2 dg b2=>?_,fun e dx H' g1 g2=>qe (by rw [e];rfl) dx H' g1 fun b o hb=>g2 b o (s1 b o hb) (ne_of_none hb na)⟩
  have s2:Same H H2:=fun b o hb=>b2 b o (s1 b o hb) (ne_of_none hb na)
  have dg':=DirG.sub (N':=fun y=>H y=none) dg fun b nb=>Same.free' s1 nb
  obtain ⟨hdi,hno⟩:=scanDir_some ed
  obtain ⟨nx,dd,fl,wd,pr,n1,n2,n3,wp,hx,hfl,hw,hpr⟩:=id dg'
  refine ⟨_,rfl,x,dd,fl,wd,pr,d,_,_,_,rfl,⟨hx,hfl,hw,hpr⟩,hno,fun H3 s3=>⟨_,rfl,?_⟩⟩
  refine ite2 (fun h=>?_) fun h=>?_
  ·refine ⟨_,rfl,fun ae dxe H4 g1 g2 g3=>qe ?_ dxe H4 g2 fun b o hb=>g3 b o (s3 b o (s2 b o hb))⟩
   rw [ed]
   have:rightFlags d=false:=by simpa using h
   show (if rightFlags d=true then _ else _)=_
   rw [if_neg (by rw [this];simp)]
  ·refine ⟨_,rfl,qo d r ed (by simpa using h) x H3 ?_ fun b o hb=>s3 b o (s2 b o hb)⟩
   rw [(spell_len hdi).1]
   exact dg'.keep (Same.keep s3)
theorem ok_read_format {f Cf Cd Ca wf:Addr} {fd:FuncData} (F:Fun K "read_format" "read_format" s_read_format f fd) (T:TFm K mg Cf) (TD:TDr K Cd) (hPC:GI mg "PERCENT" 37) (cFm:CalC P w K mg base Cf "Format" ["self","row"] 1 (spFmInit K Cf Cd Ca))
 (cRD:Cal P w K mg base (CXe P w) "read_directive" ["row","place"] 9 (spReadDir Cd Ca wf)) (cAdd:Cal P w K mg base (CXe P w) "add_directive" ["found","directive"] 4 (spAdd Cf Cd Ca wf)):FnOk P w K mg base (CXe P w) 10 f fd ["row"] (spReadFmt Cf Cd Ca wf):=by
 refine F.okx sc_read_format (fun vs H Q E h=>?_) (fun cdv A outer s H vs Q E hr h=>?_)
 ·obtain ⟨rl,bs,rfl,_⟩:=h
  rfl
 ·obtain ⟨rl,bs,rfl,hrow,hbs,qo,qe⟩:=h
  have hr2:Room 2 _:=hr.mono (by decide)
  have hr4:Room 4 _:=hr.mono (by decide)
  refine ⟨_,pss_cons (ps_set (i:=1) sc_read_format.nd rfl (Or.inl rfl) (pe_calc cFm hr2 (pa_cons (pv 0) pa_nil)))
   (pss_cons (ps_set (i:=2) sc_read_format.nd rfl (Or.inl rfl) pe_int)
   (pss_cons (ps_while PassesOwn.leaving (pt_cmpR op_lt (pv 2) (pe_callB call_len_seq (by rfl) T.len PySem.boot_len (pa_cons (pv 0) pa_nil)) (nomark _))
    (pss_one (ps_if (pt_cmpR op_ne (pe_ix ix_list (pv 0) (pv 2) (fun _ _=>rfl)) (pe_gi hPC) (nomark _)) (pss_one (ps_aug (i:=2) sc_read_format.nd rfl (Or.inl rfl) pe_int iop_add))
     (pss_one (ps_if (pt_cmpR (op_eq1 hr.units) (pe_slice sl_list (pv 0) (po_some (pe_op op_add (pv 2) pe_int)) (po_some (pe_op op_add (pv 2) pe_int))) (pe_lst (pa_cons (pe_gi hPC) pa_nil)) (nomark _)) (pss_one (ps_aug (i:=2) sc_read_format.nd rfl (Or.inl rfl) pe_int iop_add))
      (pss_cons (ps_set (i:=3) sc_read_format.nd rfl (Or.inl rfl) (pe_cal cRD hr leave_ok.passes (pa_cons (pv 0) (pa_cons (pv 2) pa_nil))))
      (pss_cons (ps_expr (pe_cal cAdd hr4 leave_ok.passes (pa_cons (pv 1) (pa_cons (pv 3) pa_nil))))
      (pss_one (ps_aug (i:=2) sc_read_format.nd rfl (Or.inl rfl) (pe_fld (pv 3) rfl) iop_add)))))))))
   (pss_one (ps_ret (pv 1))))),?_⟩
  refine ⟨_,rfl,fun a dxx na nd nad=>?_⟩
  refine ⟨a,dxx,rl,bs,rfl,upd_same,?_,fun H1 fm1 k1=>⟨rfl,?_⟩⟩
  ·exact SqL.of (by rw [upd_ne (ne_of_none hrow na),upd_ne (ne_of_none hrow nd)];exact hrow)
  have s1:Same H H1:=amNew na nd k1
  have fm1':FmtAt Cf Cd Ca (fun y=>H y=none) H1 a bs [] []:=fm1.sub fun b nb=>by
   rcases nb with z | rfl
   ·by_cases e:b=a
    ·rw [e];exact na
    ·rw [upd_ne e] at z
     by_cases e2:b=dxx
     ·rw [e2];exact nd
     ·rw [upd_ne e2] at z;exact z
   ·exact na
  refine ⟨fun m σ H'=>∃(k:Nat) (l:List Piece) (v:Option V),m=bs.length - k∧k≤bs.length∧σ=[some (.ref rl),some (.ref a),some (.int (k:Nat)),v]∧FmtAt Cf Cd Ca (fun y=>H y=none) H' a bs (uses l) (Fc.wants l)∧Same H H'∧rd l (bs.drop k) k=formatIn bs∧
   together l=true∧(∀d∈Fc.dirsOf l,starsOk d=true)∧(spelling l).length=k,⟨_,0,[],none,rfl,Nat.zero_le _,rfl,fm1',s1,rfl,rfl,by simp [Fc.dirsOf],rfl⟩,?_⟩
  rintro m σ H2 ⟨k,l,v,rfl,hk,rfl,fm2,s2,erd,htog,hst,hlen⟩
  have row2:RowAt H2 rl bs:=s2 _ _ hrow
  refine ⟨_,rfl,_,rfl,rl,_,rfl,.inl (SqL.of row2),_,_,rfl,rfl,_,rfl,?_⟩
  rw [List.length_map]
  by_cases hlt:k < bs.length
  ·refine iteB (c:=true) (decide_eq_true (by omega)) (iteT ⟨_,fun σ' H' h=>h,?_⟩)
   obtain ⟨c,hc⟩:∃c,bs[k]?=some c:=⟨_,List.getElem?_eq_getElem hlt⟩
   have hdk:bs.drop k=c::bs.drop (k + 1):=by
    rw [List.drop_eq_getElem_cons hlt]
    congr 1
    exact Option.some.inj (by rw [←hc,List.getElem?_eq_getElem hlt])
   refine ⟨_,rfl,_,rfl,rl,_,_,_,rfl,rfl,SqL.of row2,atI_nat (j:=k) (v:=vb c) (by rw [List.getElem?_map,hc];rfl),rfl,_,rfl,?_⟩
   have ec:decide (vb c=V.int 37)=decide (c=37):=by
    have:(vb c=V.int 37)↔c=37:=by
     constructor
     ·intro z
      have z':(c.toNat:Int)=37:=V.int.inj z
      exact UInt8.toNat_inj.mp (by show c.toNat=37;omega)
     ·rintro rfl;rfl
    simp [this]
   by_cases h37:c=37
   ·refine iteB (c:=false) (by rw [ec,decide_eq_true h37];rfl) (iteF ?_)
    subst h37
    refine ⟨_,rfl,_,rfl,_,_,rfl,rfl,_,rfl,_,rfl,_,_,rfl,rfl,_,rfl,rl,_,rfl,SqL.of row2,fun sl nsl=>?_⟩
    have cut:cutV (bs.map vb) (some ((k:Int) + 1)) (some ((k:Int) + 2))=(((bs.drop (k + 1)).head?.map fun c=>((c.toNat:Nat):Int)).toList).map V.int:=by
     have e3:((k:Int) + 1)=((k + 1:Nat):Int):=by omega
     have e4:((k:Int) + 2)=((k + 2:Nat):Int):=by omega
     unfold cutV
     rw [e3,e4,HT.sIx_nat,HT.sIx_nat,List.length_map,Nat.min_eq_left (by omega:k + 1≤bs.length),←List.map_drop,←List.map_take]
     cases hd:bs.drop (k + 1) with
     | nil=>rw [List.take_nil];rfl
     | cons y t=>
      have:k + 1 < bs.length:=by
       have:=congrArg List.length hd
       rw [List.length_drop,List.length_cons] at this
       omega
      rw [show min (k + 2) bs.length - (k + 1)=1 by omega]
      rfl
    rw [cut]
    have s3:Same H2 (upd H2 sl (.lst ((((bs.drop (k + 1)).head?.map fun c=>((c.toNat:Nat):Int)).toList).map V.int))):=fun b o hb=>by rw [upd_ne (ne_of_none hb nsl)];exact hb
    refine ⟨by show 1≤sizeLine;decide,fun pl npl=>?_⟩
    have s4:Same H2 (upd (upd H2 sl (.lst ((((bs.drop (k + 1)).head?.map fun c=>((c.toNat:Nat):Int)).toList).map V.int))) pl (.lst [.int 37])):=fun b o hb=>by rw [upd_ne (ne_of_none (s3 b o hb) npl)];exact s3 b o hb
    refine ⟨sl,pl,_,37,rfl,rfl,SqL.of (by rw [upd_ne (ne_of_none upd_same npl),upd_same]),SqL.of upd_same,_,rfl,?_⟩
    have S4:Same H _:=fun b o hb=>s4 b o (s2 b o hb)
    have fm4:=fm2.keep (Same.keep s4)
    generalize upd (upd H2 sl _) pl _=H4 at s4 S4 fm4 ⊢
    have row4:RowAt H4 rl bs:=S4 _ _ hrow
    have eh:decide (((bs.drop (k + 1)).head?.map fun c=>((c.toNat:Nat):Int))=some 37)=decide ((bs.drop (k + 1)).head?=some 37):=by
     cases hd:(bs.drop (k + 1)).head? with
     | none=>rfl
     | some y=>
      have:((y.toNat:Nat):Int)=37↔y=37:=by
       constructor
       ·intro z;exact UInt8.toNat_inj.mp (by show y.toNat=37;omega)
       ·rintro rfl;rfl
      simp [this]
    refine iteB eh ?_
    by_cases hh:(bs.drop (k + 1)).head?=some 37
    ·rw [decide_eq_true hh]
     obtain ⟨t,ht⟩:∃t,bs.drop (k + 1)=37::t:=by
      cases hd:bs.drop (k + 1) with
      | nil=>rw [hd] at hh;cases hh
      | cons y t=>rw [hd] at hh;cases hh;exact ⟨t,rfl⟩
     have hk2:k + 2≤bs.length:=by
      have:=congrArg List.length ht
      rw [List.length_drop,List.length_cons] at this
      omega
     have ht2:bs.drop (k + 2)=t:=by
      have:=congrArg List.tail ht
      rw [List.tail_drop] at this
      exact this
     refine iteT ⟨_,rfl,_,_,rfl,rfl,bs.length - (k + 2),by omega,k + 2,l++[.percent],v,rfl,hk2,rfl,?_,S4,?_,?_,?_,?_⟩
     ·rw [uses_percent,wants_of_uses (uses_percent l)];exact fm4
     ·rw [←erd,hdk,ht,rd_percent,ht2]
     ·rw [together_percent];exact htog
     ·rw [dirsOf_percent];exact hst
     ·rw [spelling_append,List.length_append,hlen];rfl
    ·rw [decide_eq_false hh]
     refine iteF ⟨_,rfl,_,rfl,rl,k,bs,bs.drop (k + 1),rfl,row4,hlt,hbs,rfl,fun d r ed hrf x H5 dg s5=>?_,fun e dx H' g1 g2=>qe k (by rw [←erd,hdk];exact rd_wrong hh e) dx H' g1 fun b o hb=>g2 b o (S4 b o hb)⟩
     have S5:Same H H5:=fun b o hb=>s5 b o (S4 b o hb)
     have fm5:=(fm4.there.keep (Same.keep s5))
     have erd':formatIn bs=if together (l++[.dir d])=true then rd (l++[.dir d]) r (k + (spell d).length) else .error k:=by
      rw [←erd,hdk];exact rd_dir hh ed hrf
     have okst:=starsOk_of hrf
     have tg:=(together_iff l).mp htog
     have ai:=add_iff (d:=d) htog hst
     have wl:=wants_length l
     rw [hlen] at ai
     refine ⟨_,rfl,_,rfl,a,x,_,_,bs,uses l,Fc.wants l,d,k,kOf l d,rfl,fun y z1 z2=>z1.2 z2,fm5,wantsAll_ne l,tg.2.2,tg.2.1,?_,dg,okst,fun z=>by unfold kOf;rw [if_pos z],fun ok H6 fm6 ux o6=>?_,fun no dx H' g1 g2=>qe k (by rw [erd',if_neg fun z=>no (ai.mpr z)]) dx H' g1 fun b o hb=>g2 b o ?_ (S5 b o hb)⟩
     ·have:=tg.2.1
      have:(uses l).length≤32:=this
      omega
     ·have S6:Same H H6:=fun b o hb=>o6 b o (fun z=>by
       rcases z with z | z
       ·rw [z.1] at hb;cases hb
       ·rw [S4 b o hb] at z;cases z) (S5 b o hb)
      have fm6':=fm6.sub (N':=fun y=>H y=none) fun b z=>by
       rcases z with z | z
       ·exact z.1
       ·exact Same.free' S4 z
      have tgd:=ai.mp ok
      have eu:uses l++[useOf k (kOf l d) d]=uses (l++[.dir d]):=by rw [uses_dir,hlen,kOf_eq htog hst ok.2.1]
      have ew:Fc.wants l++(useOf k (kOf l d) d).wants=Fc.wants (l++[.dir d]):=by rw [wants_dir,hlen,kOf_eq htog hst ok.2.1]
      rw [eu,ew] at fm6'
      obtain ⟨hsp1,hsp2⟩:=spell_len (scanDir_some ed).1
      obtain ⟨_,dq,fl,wd,pr,_,_,_,_,hx6,_⟩:=ux
      have lr:r.length=bs.length - (k + (spell d).length):=by
       have:(bs.drop (k + 1)).length=bs.length - (k + 1):=List.length_drop
       omega
      have kb:k + (spell d).length≤bs.length:=by
       have:(bs.drop (k + 1)).length=bs.length - (k + 1):=List.length_drop
       omega
      have dr:bs.drop (k + (spell d).length)=r:=by
       rw [←List.drop_drop,hdk,scan_spell ed,List.drop_left]
      refine ⟨_,rfl,_,rfl,x,Cd,dq,_,_,rfl,hx6,TD.cl,TD.nSize,rfl,_,_,rfl,rfl,bs.length - (k + (spell d).length),by omega,k + (spell d).length,l++[.dir d],some (.ref x),rfl,kb,?_,fm6',S6,?_,tgd,fun d' hd'=>?_,?_⟩
      ·have:((k:Nat):Int) + (((spell d).length:Nat):Int)=((k + (spell d).length:Nat):Int):=by omega
       rw [←this]
       rfl
      ·rw [erd',if_pos tgd,dr]
      ·rw [dirsOf_dir] at hd'
       rcases List.mem_append.mp hd' with z | z
       ·exact hst d' z
       ·rw [List.mem_singleton.mp z];exact okst
      ·rw [spelling_append,List.length_append,hlen,spelling_one];rfl
     ·intro z
      rcases z with z | z
      ·rw [z.1] at hb;cases hb
      ·rw [S4 b o hb] at z;cases z
   ·refine iteB (c:=true) (by rw [ec,decide_eq_false h37];rfl) (iteT ?_)
    refine ⟨_,rfl,_,_,rfl,rfl,bs.length - (k + 1),by omega,k + 1,l++[.byte c],v,rfl,hlt,rfl,?_,s2,?_,?_,?_,?_⟩
    ·rw [uses_byte,wants_of_uses (uses_byte l c)];exact fm2
    ·rw [←erd,hdk,rd_byte h37]
    ·rw [together_byte];exact htog
    ·rw [dirsOf_byte];exact hst
    ·rw [spelling_append,List.length_append,hlen];rfl
  ·have e:k=bs.length:=by omega
   refine iteB (c:=false) (decide_eq_false (by omega)) (iteF ⟨_,rfl,qo l ?_ a H2 fm2 s2⟩)
   rw [←erd,e,List.drop_length]
   rfl
end
end Fm
namespace Fm
open PySem PySem.Spec PyProof.Rows L2
open Fc (Bytes Size Len Conv Use Piece uses)
theorem for_enum {K:PySem.W.Frag} {a:Addr} {xs:List V} {g:TG} {tb:TS} {D:Ends} {σ:L2.St} {H:Hp} (Pv:Nat→L2.St→Hp→Prop) (h0:Pv 0 σ H) (hl:∀i σ H,i≤xs.length→Pv i σ H→SqL K H a xs)
 (hs:∀i x σ H T,xs[i]?=some x→Pv i σ H→H T=none→g (.ref T) σ (upd H T (.tup [.int (i:Nat),x])) fun σ2 H2=>tb {D with nx:=Pv (i + 1),ct:=Pv (i + 1),bk:=D.nx} σ2 H2) (hd:∀σ H,Pv xs.length σ H→D.nx σ H):
 ∃W:Nat→Nat→L2.St→Hp→Prop,(∃m,W 0 m σ H)∧∀i m σ H,W i m σ H→
  ((Ite K a).stop i H∧D.nx σ H)∨((Ite K a).go i H∧∃N:L2.St→Hp→Prop,(∀σ' H',N σ' H'→∃m',m' < m∧W (i + 1) m' σ' H')∧∀x H',(Ite K a).yld i H x H'→g x σ H' fun σ2 H2=>tb {D with nx:=N,ct:=N,bk:=D.nx} σ2 H2):=by
 refine ⟨fun i m σ H=>m=xs.length - i∧i≤xs.length∧Pv i σ H,⟨xs.length,by simp,Nat.zero_le _,h0⟩,?_⟩
 rintro i m σ H ⟨rfl,hi,p⟩
 have q:=hl i σ H hi p
 by_cases hlt:i < xs.length
 ·refine .inr ⟨⟨xs,xs[i],q,by simp [hlt]⟩,Pv (i + 1),fun σ' H' p'=>⟨xs.length - (i + 1),by omega,rfl,hlt,p'⟩,?_⟩
  rintro v H' ⟨T,x,rfl,nT,rfl,hx⟩
  exact hs i x σ H T (hx xs q) p nT
 ·have e:i=xs.length:=by omega
  subst e
  exact .inl ⟨⟨xs,q,Nat.le_refl _⟩,hd σ H p⟩
def diffOf (ws ws2:List (Nat×Nat)):Nat:=(((List.range 16).find? fun n=>tableOf ws (n + 1) != tableOf ws2 (n + 1)).map fun n=>n + 1).getD 0
structure TMs (K:PySem.W.Frag) (mg:Str→Option Value):Prop where
 range:mg "range"=none
 len:mg "len"=none
 enum:mg "enumerate"=none
 HARG:GI mg "HIGHEST_ARGUMENT" 16
 MIS:GI mg "MISSING" 1
 OTH:GI mg "OTHER_KIND" 2
 NOT:GI mg "NOT_TAKEN" 3
def spDiff (Cf Cd Ca:Addr):Sp:=fun vs H Q _=>∃(a b:Addr) (N N2:Addr→Prop) (bs bs2:Bytes) (us us2:List Use) (ws ws2:List (Nat×Nat)),vs=[.ref a,.ref b]∧FmtAt Cf Cd Ca N H a bs us ws∧FmtAt Cf Cd Ca N2 H b bs2 us2 ws2∧Q (.int (diffOf ws ws2:Nat)) H
def UseOk (u:Use):Prop:=u.width.isSome=szStar u.dir.width∧u.prec.isSome=szStar u.dir.prec
theorem pairs_ok {u:Use} (h:UseOk u):pairsOf u.dir u.arg (u.width.getD 0) (u.prec.getD 0)=u.wants:=by
 obtain ⟨h1,h2⟩:=h
 unfold pairsOf Use.wants
 rw [←h1,←h2]
 cases u.width<;>cases u.prec<;>rfl
theorem useOf_ok (a k:Nat) (d:Fc.Dir):UseOk (useOf a k d):=by
 have h:∀(k:Nat) (s:Size),(Fc.sizeArg k s).isSome=szStar s:=fun k s=>by cases s<;>rfl
 exact ⟨h _ _,h _ _⟩
theorem usesFrom_ok:∀(l:List Piece) (a k:Nat),∀u∈Fc.usesFrom a k l,UseOk u
 | [],_,_,u,h=>by cases h
 | .dir d::l,a,k,u,h=>by
  rw [usesFrom_dir] at h
  rcases List.mem_cons.mp h with rfl | h
  ·exact useOf_ok _ _ _
  ·exact usesFrom_ok l _ _ u h
 | .byte _::l,a,k,u,h=>usesFrom_ok l (a + 1) k u h
 | .percent::l,a,k,u,h=>usesFrom_ok l (a + 2) k u h
theorem uses_ok (l:List Piece):∀u∈uses l,UseOk u:=usesFrom_ok l 0 1
def tk (k:Nat) (u:Use):List (Nat×Nat×Nat):=u.wants.map fun x=>(k,x.1,x.2)
def takesOf (us:List Use):List (Nat×Nat×Nat):=(List.range us.length).flatMap fun k=>match us[k]? with
 | some u=>tk k u
 | none=>[]
def takesFrom:Nat→List Use→List (Nat×Nat×Nat)
 | _,[]=>[]
 | k,u::us=>tk k u++takesFrom (k + 1) us
theorem takes_from:∀(us:List Use) (k:Nat),((List.range us.length).flatMap fun j=>match us[j]? with | some u=>tk (k + j) u | none=>[])=takesFrom k us
 | [],_=>rfl
 | u::us,k=>by
  rw [List.length_cons,List.range_succ_eq_map,List.flatMap_cons,takesFrom,←takes_from us (k + 1),List.flatMap_map]
  congr 1
  refine congrArg (fun f=>List.flatMap f (List.range us.length)) (funext fun j=>?_)
  rw [Nat.succ_eq_add_one,List.getElem?_cons_succ,show k + (j + 1)=k + 1 + j by omega]
theorem takes_of (us:List Use):takesOf us=takesFrom 0 us:=by
 have:=takes_from us 0
 rw [←this]
 unfold takesOf
 refine congrArg (fun f=>List.flatMap f (List.range us.length)) (funext fun j=>?_)
 rw [Nat.zero_add]
theorem takesFrom_append:∀(us vs:List Use) (k:Nat),takesFrom k (us++vs)=takesFrom k us++takesFrom (k + us.length) vs
 | [],_,_=>rfl
 | u::us,vs,k=>by
  rw [List.cons_append,takesFrom,takesFrom,takesFrom_append us vs,List.append_assoc,List.length_cons,show k + 1 + us.length=k + (us.length + 1) by omega]
def badT (ts:List Nat) (x:Nat×Nat×Nat):Bool:=ts[x.2.1 - 1]? != some x.2.2
def notTaken (ws:List (Nat×Nat)) (ts:List Nat):Option (Nat×Int×Nat):=((List.range ts.length).find? fun n=>tableOf ws (n + 1)==0).map fun n=>(3,-1,n + 1)
def misuseOf (us:List Use) (ws:List (Nat×Nat)) (ts:List Nat):Option (Nat×Int×Nat):=match (takesOf us).find? (badT ts) with
 | some x=>some ((if ts.length < x.2.1 then 1 else 2),Int.ofNat x.1,x.2.1)
 | none=>notTaken ws ts
def MisV (H:Hp) (v:V):Option (Nat×Int×Nat)→Prop
 | none=>v=.non
 | some x=>∃t,v=.ref t∧H t=some (.tup [.int x.1,.int x.2.1,.int x.2.2])
theorem find_first {α:Type} {p:α→Bool} {A B:List α} {x:α} (h1:∀y∈A,p y=false) (h2:p x=true):(A++x::B).find? p=some x:=by
 rw [List.find?_append,List.find?_eq_none.mpr fun y hy=>by rw [h1 y hy];simp,List.find?_cons,h2]
 rfl
def natV (ts:List Nat):List V:=ts.map fun n=>V.int (n:Nat)
def spNotTaken (K:PySem.W.Frag) (Cf Cd Ca:Addr):Sp:=fun vs H Q _=>∃(a kl:Addr) (N:Addr→Prop) (bs:Bytes) (us:List Use) (ws:List (Nat×Nat)) (ts:List Nat),vs=[.ref a,.ref kl]∧FmtAt Cf Cd Ca N H a bs us ws∧SqL K H kl (natV ts)∧ts.length≤1000∧
 ∀v H',MisV H' v (notTaken ws ts)→Same H H'→Q v H'
def spMisuse (K:PySem.W.Frag) (Cf Cd Ca:Addr):Sp:=fun vs H Q _=>∃(a kl:Addr) (N:Addr→Prop) (bs:Bytes) (us:List Use) (ws:List (Nat×Nat)) (ts:List Nat),vs=[.ref a,.ref kl]∧FmtAt Cf Cd Ca N H a bs us ws∧SqL K H kl (natV ts)∧ts.length≤1000∧(∀u∈us,UseOk u∧∀x∈u.wants,1≤x.1)∧us.length≤32∧
 ∀v H',MisV H' v (misuseOf us ws ts)→Same H H'→Q v H'
theorem SqL.same {K:PySem.W.Frag} {H H':Hp} {rl:Addr} {xs:List V} (h:SqL K H rl xs) (b:Same H H'):SqL K H' rl xs:=by
 rcases h with (h | ⟨o,h⟩) | h
 ·exact .inl (.inl (b _ _ h))
 ·exact .inl (.inr ⟨o,b _ _ h⟩)
 ·exact .inr h
theorem Same.trans {H H1 H2:Hp} (x:Same H H1) (y:Same H1 H2):Same H H2:=fun b o h=>y b o (x b o h)
theorem same_new {H:Hp} {l:Addr} {o:HO} (h:H l=none):Same H (upd H l o):=fun b u hb=>by rw [upd_ne (ne_of_none hb h)];exact hb
section
variable {P:Program} {w:World} {K:PySem.W.Frag} {mg:Str→Option Value} {base:Heap}
theorem ok_least_difference {f Cf Cd Ca:Addr} {fd:FuncData} (F:Fun K "least_difference" "least_difference" s_least_difference f fd) (S:TMs K mg) (cKd:CalM P w K mg base CX0 Cf "kind_of" ["self","argument"] 1 (spKindOf Cf Cd Ca)):FnOk P w K mg base CX0 2 f fd ["one","other"] (spDiff Cf Cd Ca):=by
 refine F.ok sc_least_difference (fun vs H Q E h=>?_) (fun cdv A outer s H vs Q E hr h=>?_)
 ·obtain ⟨a,b,N,N2,bs,bs2,us,us2,ws,ws2,rfl,_⟩:=h
  rfl
 ·obtain ⟨a,b,N,N2,bs,bs2,us,us2,ws,ws2,rfl,fa,fb,q⟩:=h
  refine ⟨_,pss_cons (ps_for PassesOwn.never rfl (pi_range2 rfl S.range (pa_cons pe_int (pa_cons (pe_op op_add (pe_gi S.HARG) pe_int) pa_nil))) (pg_name (i:=2) sc_least_difference.nd rfl (Or.inl rfl))
   (pss_one (ps_if (pt_cmpR op_ne (pe_calm (pv 0) cKd hr pass0 (pa_cons (pv 2) pa_nil)) (pe_calm (pv 1) cKd hr pass0 (pa_cons (pv 2) pa_nil)) (nomark _)) (pss_one (ps_ret (pv 2))) pss_nil)))
   (pss_one (ps_ret pe_int)),?_⟩
  obtain ⟨d1,_,_,_,_,_,x1⟩:=id fa
  obtain ⟨d2,_,_,_,_,_,x2⟩:=id fb
  refine ⟨_,_,rfl,rfl,1,17,rfl,⟨by decide,by decide,by decide,by decide⟩,?_⟩
  refine for_range (lo:=1) (n:=16) (fun i σ H'=>H=H'∧(∃v,σ=[some (.ref a),some (.ref b),v])∧∀n,n < i→tableOf ws (n + 1)=tableOf ws2 (n + 1)) ⟨rfl,⟨none,rfl⟩,fun n h=>absurd h (Nat.not_lt_zero n)⟩ (fun i σ H' hi h=>?_) fun σ H' h=>?_
  ·obtain ⟨rfl,⟨v,rfl⟩,h3⟩:=h
   have ei:(1:Int) + (i:Int)=((i + 1:Nat):Int):=by omega
   rw [ei]
   refine ⟨_,rfl,a,d1,_,rfl,x1.ha,rfl,_,rfl,a,N,bs,us,ws,i + 1,rfl,fa,_,rfl,b,d2,_,rfl,x2.ha,rfl,_,rfl,b,N2,bs2,us2,ws2,i + 1,rfl,fb,rfl,_,rfl,?_⟩
   have et:(!decide (V.int (tableOf ws (i + 1):Nat)=V.int (tableOf ws2 (i + 1):Nat)))=(tableOf ws (i + 1) != tableOf ws2 (i + 1)):=by
    have:(V.int (tableOf ws (i + 1):Nat)=V.int (tableOf ws2 (i + 1):Nat))↔tableOf ws (i + 1)=tableOf ws2 (i + 1):=by
     constructor
     ·intro z;have:=V.int.inj z;omega
     ·intro z;rw [z]
    rw [bne,Bool.beq_eq_decide_eq]
    simp only [this]
   refine iteB et ?_
   refine ite2 (fun h=>?_) fun h=>?_
   ·refine ⟨_,rfl,?_⟩
    have:diffOf ws ws2=i + 1:=by
     unfold diffOf
     rw [(List.find?_range_eq_some (n:=16) (i:=i)).mpr ⟨h,List.mem_range.mpr hi,fun j hj=>by simp [h3 j hj]⟩]
     rfl
    rw [this] at q
    exact q
   ·refine ⟨rfl,⟨_,rfl⟩,fun n hn=>?_⟩
    by_cases e:n=i
    ·rw [e];simpa using h
    ·exact h3 n (by omega)
  ·obtain ⟨rfl,_,h3⟩:=h
   have:diffOf ws ws2=0:=by
    unfold diffOf
    rw [List.find?_range_eq_none.mpr fun j hj=>by simp [h3 j hj]]
    rfl
   rw [this] at q
   exact q
theorem ok_first_not_taken {f Cf Cd Ca:Addr} {fd:FuncData} (F:Fun K "first_not_taken" "first_not_taken" s_first_not_taken f fd) (S:TMs K mg) (cKd:CalM P w K mg base CX0 Cf "kind_of" ["self","argument"] 1 (spKindOf Cf Cd Ca)):FnOk P w K mg base CX0 2 f fd ["found","kinds"] (spNotTaken K Cf Cd Ca):=by
 refine F.ok sc_first_not_taken (fun vs H Q E h=>?_) (fun cdv A outer s H vs Q E hr h=>?_)
 ·obtain ⟨a,kl,N,bs,us,ws,ts,rfl,_⟩:=h
  rfl
 ·obtain ⟨a,kl,N,bs,us,ws,ts,rfl,fa,hs,hl,q⟩:=h
  refine ⟨_,pss_cons (ps_for PassesOwn.never rfl (pi_range2 rfl S.range (pa_cons pe_int (pa_cons (pe_op op_add (pe_callB call_len_seq (by rfl) S.len PySem.boot_len (pa_cons (pv 1) pa_nil)) pe_int) pa_nil))) (pg_name (i:=2) sc_first_not_taken.nd rfl (Or.inl rfl))
   (pss_one (ps_if (pt_cmpR op_eq (pe_calm (pv 0) cKd hr pass0 (pa_cons (pv 2) pa_nil)) pe_int (nomark _)) (pss_one (ps_ret (pe_tup (pa_cons (pe_gi S.NOT) (pa_cons (pe_un un_neg pe_int) (pa_cons (pv 2) pa_nil)))))) pss_nil)))
   (pss_one (ps_ret pe_non)),?_⟩
  obtain ⟨d1,_,_,_,_,_,x1⟩:=id fa
  have nl:(natV ts).length=ts.length:=List.length_map _
  refine ⟨_,rfl,kl,_,rfl,.inl hs,_,_,rfl,rfl,1,_,rfl,⟨by decide,by decide,by omega,by omega⟩,?_⟩
  have en:((((natV ts).length:Nat):Int) + 1 - 1).toNat=ts.length:=by omega
  rw [en]
  refine for_range (lo:=1) (n:=ts.length) (fun i σ H'=>H=H'∧(∃v,σ=[some (.ref a),some (.ref kl),v])∧∀n,n < i→tableOf ws (n + 1)≠0) ⟨rfl,⟨none,rfl⟩,fun n h=>absurd h (Nat.not_lt_zero n)⟩ (fun i σ H' hi h=>?_) fun σ H' h=>?_
  ·obtain ⟨rfl,⟨v,rfl⟩,h3⟩:=h
   have ei:(1:Int) + (i:Int)=((i + 1:Nat):Int):=by omega
   rw [ei]
   refine ⟨_,rfl,a,d1,_,rfl,x1.ha,rfl,_,rfl,a,N,bs,us,ws,i + 1,rfl,fa,rfl,_,rfl,?_⟩
   have et:decide (V.int (tableOf ws (i + 1):Nat)=V.int 0)=(tableOf ws (i + 1)==0):=by
    have:(V.int (tableOf ws (i + 1):Nat)=V.int 0)↔tableOf ws (i + 1)=0:=by
     constructor
     ·intro z;have:=V.int.inj z;omega
     ·intro z;rw [z];rfl
    rw [Bool.beq_eq_decide_eq]
    simp only [this]
   refine iteB et ?_
   refine ite2 (fun h=>?_) fun h=>?_
   ·refine ⟨_,rfl,_,rfl,(by show 3≤sizeLine;decide),fun t nt=>?_⟩
    refine q _ _ ?_ (same_new nt)
    have:notTaken ws ts=some (3,-1,i + 1):=by
     unfold notTaken
     rw [(List.find?_range_eq_some (n:=ts.length) (i:=i)).mpr ⟨h,List.mem_range.mpr hi,fun j hj=>by simp [h3 j hj]⟩]
     rfl
    rw [this]
    exact ⟨t,rfl,upd_same⟩
   ·refine ⟨rfl,⟨_,rfl⟩,fun n hn=>?_⟩
    by_cases e:n=i
    ·rw [e];simpa using h
    ·exact h3 n (by omega)
  ·obtain ⟨rfl,_,h3⟩:=h
   have:notTaken ws ts=none:=by
    unfold notTaken
    rw [List.find?_range_eq_none.mpr fun j hj=>by simp [h3 j hj]]
    rfl
   refine q _ _ ?_ fun _ _ h=>h
   rw [this]
   exact rfl
theorem ok_first_misuse {f Cf Cd Ca:Addr} {fd:FuncData} (F:Fun K "first_misuse" "first_misuse" s_first_misuse f fd) (T:TFm K mg Cf) (S:TMs K mg) (cPairs:Cal P w K mg base CX0 "taken_pairs" ["directive"] 2 (spPairs Cd Ca)) (cNot:Cal P w K mg base CX0 "first_not_taken" ["found","kinds"] 2 (spNotTaken K Cf Cd Ca)):
 FnOk P w K mg base CX0 3 f fd ["found","kinds"] (spMisuse K Cf Cd Ca):=by
 refine F.ok sc_first_misuse (fun vs H Q E h=>?_) (fun cdv A outer s H vs Q E hr h=>?_)
 ·obtain ⟨a,kl,N,bs,us,ws,ts,rfl,_⟩:=h
  rfl
 ·obtain ⟨a,kl,N,bs,us,ws,ts,rfl,fa,hs,hl,h1,h32,q⟩:=h
  refine ⟨_,pss_cons (ps_for PassesOwn.never rfl (pi_enum rfl S.enum (pa_cons (pe_fld (pv 0) rfl) pa_nil)) (pg_tup rfl (pgs_cons (pg_name (i:=2) sc_first_misuse.nd rfl (Or.inl rfl)) (pgs_cons (pg_name (i:=3) sc_first_misuse.nd rfl (Or.inl rfl)) pgs_nil)))
   (pss_one (ps_for PassesOwn.never rfl (pi_list (pe_cal cPairs hr pass0 (pa_cons (pv 3) pa_nil))) (pg_tup rfl (pgs_cons (pg_name (i:=4) sc_first_misuse.nd rfl (Or.inl rfl)) (pgs_cons (pg_name (i:=5) sc_first_misuse.nd rfl (Or.inl rfl)) pgs_nil)))
    (pss_cons (ps_if (pt_cmpR op_gt (pv 4) (pe_callB call_len_seq (by rfl) S.len PySem.boot_len (pa_cons (pv 1) pa_nil)) (nomark _)) (pss_one (ps_ret (pe_tup (pa_cons (pe_gi S.MIS) (pa_cons (pv 2) (pa_cons (pv 4) pa_nil)))))) pss_nil)
    (pss_one (ps_if (pt_cmpR op_ne (pe_ix ix_list (pv 1) (pe_op op_sub (pv 4) pe_int) (fun _ _=>rfl)) (pv 5) (nomark _)) (pss_one (ps_ret (pe_tup (pa_cons (pe_gi S.OTH) (pa_cons (pv 2) (pa_cons (pv 4) pa_nil)))))) pss_nil))))))
   (pss_one (ps_ret (pe_cal cNot hr pass0 (pa_cons (pv 0) (pa_cons (pv 1) pa_nil))))),?_⟩
  obtain ⟨dx,rl,dl,kd,ds,kvs,x1⟩:=id fa
  have lds:=x1.us.length
  have ntl:(natV ts).length=ts.length:=List.length_map _
  refine ⟨_,rfl,a,Cf,dx,_,_,rfl,x1.ha,T.cl,T.nDir,rfl,dl,_,rfl,SqL.of x1.hd,?_⟩
  refine for_enum (xs:=ds.map V.ref) (fun i σ H'=>(∃v2 v3 v4 v5,σ=[some (.ref a),some (.ref kl),v2,v3,v4,v5])∧Same H H'∧∀y∈takesFrom 0 (us.take i),badT ts y=false) ⟨⟨none,none,none,none,rfl⟩,fun _ _ h=>h,by simp [takesFrom]⟩ (fun i σ H' _ h=>SqL.of (h.2.1 _ _ x1.hd)) (fun i y σ H1 T0 hi h nT=>?_) fun σ H' h=>?_
  ·obtain ⟨⟨v2,v3,v4,v5,rfl⟩,s1,h3⟩:=h
   rw [List.getElem?_map] at hi
   obtain ⟨x,hx,rfl⟩:=Option.map_eq_some_iff.mp hi
   obtain ⟨u,hu,ua⟩:=pgetL x1.us hx
   have hul:i < us.length:=(List.getElem?_eq_some_iff.mp hu).1
   have s2:Same H (upd H1 T0 (.tup [.int (i:Nat),.ref x])):=Same.trans s1 (same_new nT)
   refine ⟨T0,_,rfl,SqT.of upd_same,rfl,_,_,rfl,_,_,rfl,rfl,?_⟩
   obtain ⟨nx,dd,fl,wd,pr,n1,n2,n3,wp,hx2,hfl,hw,hp⟩:=DirG.keep ua (Same.keep s2)
   refine ⟨_,rfl,x,dd,fl,wd,pr,_,_,_,_,_,_,rfl,⟨hx2,hfl,hw,hp⟩,fun l tps H3 nl hl3 ht hn s3=>⟨l,rfl,⟨_,SqL.of hl3⟩,?_⟩⟩
   have S3:=Same.trans s2 s3
   have epw:pairsOf u.dir u.arg (u.width.getD 0) (u.prec.getD 0)=u.wants:=pairs_ok (h1 u (List.mem_of_getElem? hu)).1
   rw [epw] at ht
   refine for_list (xs:=tps.map V.ref) (fun j σ H'=>(∃v4 v5,σ=[some (.ref a),some (.ref kl),some (.int (i:Nat)),some (.ref x),v4,v5])∧H3=H'∧∀y∈u.wants.take j,badT ts (i,y.1,y.2)=false) ⟨⟨_,_,rfl⟩,rfl,by simp⟩ (fun j σ H' _ h=>by rw [←h.2.1];exact SqL.of hl3) (fun j y σ H' hj h=>?_) fun σ H' h=>?_
   ·obtain ⟨⟨w4,w5,rfl⟩,rfl,h4⟩:=h
    rw [List.getElem?_map] at hj
    obtain ⟨t,htj,rfl⟩:=Option.map_eq_some_iff.mp hj
    obtain ⟨⟨g,ty⟩,hg,tt⟩:=pgetL ht htj
    have hg1:1≤g:=(h1 u (List.mem_of_getElem? hu)).2 (g,ty) (List.mem_of_getElem? hg)
    have split:takesFrom 0 us=(takesFrom 0 (us.take i)++(u.wants.take j).map fun x=>(i,x.1,x.2))++(i,g,ty)::((u.wants.drop (j + 1)).map (fun x=>(i,x.1,x.2))++takesFrom (i + 1) (us.drop (i + 1))):=by
     have e1:us=us.take i++u::us.drop (i + 1):=by
      have:=List.drop_eq_getElem_cons hul
      rw [show us[i]=u from Option.some.inj (by rw [←hu,List.getElem?_eq_getElem hul])] at this
      rw [←this,List.take_append_drop]
     have e2:u.wants=u.wants.take j++(g,ty)::u.wants.drop (j + 1):=by
      have hjl:=(List.getElem?_eq_some_iff.mp hg).1
      have:=List.drop_eq_getElem_cons hjl
      rw [(List.getElem?_eq_some_iff.mp hg).2] at this
      rw [←this,List.take_append_drop]
     have l1:(us.take i).length=i:=by rw [List.length_take];omega
     have e3:takesFrom 0 us=takesFrom 0 (us.take i)++takesFrom i (u::us.drop (i + 1)):=by
      have:=takesFrom_append (us.take i) (u::us.drop (i + 1)) 0
      rw [←e1,Nat.zero_add,l1] at this
      exact this
     rw [e3,takesFrom]
     unfold tk
     have e4:=congrArg (List.map fun x:Nat×Nat=>(i,x.1,x.2)) e2
     rw [List.map_append,List.map_cons] at e4
     rw [e4]
     simp only [List.append_assoc,List.cons_append]
    have good:∀y∈takesFrom 0 (us.take i)++(u.wants.take j).map (fun x=>(i,x.1,x.2)),badT ts y=false:=fun y hy=>by
     rcases List.mem_append.mp hy with z | z
     ·exact h3 y z
     ·obtain ⟨x',hx',rfl⟩:=List.mem_map.mp z
      exact h4 x' hx'
    have found:badT ts (i,g,ty)=true→misuseOf us ws ts=some ((if ts.length < g then 1 else 2),(i:Int),g):=fun hb=>by
     unfold misuseOf
     rw [takes_of,split,find_first good hb]
     rfl
    refine ⟨t,_,rfl,SqT.of tt,rfl,_,_,rfl,_,_,rfl,rfl,?_⟩
    refine ⟨_,rfl,_,rfl,kl,_,rfl,.inl (SqL.same hs S3),_,_,rfl,rfl,_,rfl,?_⟩
    rw [ntl]
    by_cases hgl:ts.length < g
    ·refine iteB (c:=true) (decide_eq_true (by show ((ts.length:Nat):Int) < (g:Nat);omega)) (iteT ?_)
     refine ⟨_,rfl,_,rfl,(by show 3≤sizeLine;decide),fun t2 nt2=>q _ _ ?_ (Same.trans S3 (same_new nt2))⟩
     rw [found (by unfold badT;rw [List.getElem?_eq_none (by show ts.length≤g - 1;omega)];rfl),if_pos hgl]
     exact ⟨t2,rfl,upd_same⟩
    ·refine iteB (c:=false) (decide_eq_false (by show ¬((ts.length:Nat):Int) < (g:Nat);omega)) (iteF ?_)
     obtain ⟨z,hz⟩:∃z,ts[g - 1]?=some z:=⟨_,List.getElem?_eq_getElem (by omega)⟩
     have eg:((g:Nat):Int) - 1=((g - 1:Nat):Int):=by omega
     refine ⟨_,rfl,_,rfl,_,_,rfl,rfl,kl,_,_,V.int (z:Nat),rfl,rfl,SqL.same hs S3,?_,_,rfl,rfl,_,rfl,?_⟩
     ·show atI (natV ts) (((g:Nat):Int) - 1)=some (V.int (z:Nat))
      rw [eg]
      exact atI_nat (j:=g - 1) (by unfold natV;rw [List.getElem?_map,hz];rfl)
     ·have et:(!decide (V.int (z:Nat)=V.int (ty:Nat)))=badT ts (i,g,ty):=by
       unfold badT
       show _=(ts[g - 1]? != some ty)
       rw [hz]
       have:(V.int (z:Nat)=V.int (ty:Nat))↔z=ty:=by
        constructor
        ·intro z;have:=V.int.inj z;omega
        ·intro z;rw [z]
       rw [bne,Bool.beq_eq_decide_eq]
       simp only [this,Option.some.injEq]
      refine iteB et ?_
      refine ite2 (fun hb=>?_) fun hb=>?_
      ·refine ⟨_,rfl,_,rfl,(by show 3≤sizeLine;decide),fun t2 nt2=>q _ _ ?_ (Same.trans S3 (same_new nt2))⟩
       rw [found hb,if_neg hgl]
       exact ⟨t2,rfl,upd_same⟩
      ·refine ⟨⟨_,_,rfl⟩,rfl,fun y hy=>?_⟩
       rw [take_snoc hg] at hy
       rcases List.mem_append.mp hy with z | z
       ·exact h4 y z
       ·rw [List.mem_singleton.mp z];exact Bool.eq_false_iff.mpr hb
   ·obtain ⟨⟨w4,w5,rfl⟩,rfl,h4⟩:=h
    rw [List.length_map,ht.length,List.take_length] at h4
    refine ⟨⟨_,_,_,_,rfl⟩,S3,fun y hy=>?_⟩
    rw [take_snoc hu,takesFrom_append] at hy
    rcases List.mem_append.mp hy with z | z
    ·exact h3 y z
    ·have l1:(us.take i).length=i:=by rw [List.length_take];omega
     rw [Nat.zero_add,l1] at z
     have z:y∈tk i u++[]:=z
     rw [List.append_nil] at z
     obtain ⟨x',hx',rfl⟩:=List.mem_map.mp z
     exact h4 x' hx'
  ·obtain ⟨⟨v2,v3,v4,v5,rfl⟩,s1,h3⟩:=h
   rw [List.length_map,lds,List.take_length] at h3
   refine ⟨_,rfl,_,rfl,a,kl,N,bs,us,ws,ts,rfl,fa.keep (Same.keep s1),SqL.same hs s1,hl,fun v H2 mv s2=>q v H2 ?_ (Same.trans s1 s2)⟩
   have:misuseOf us ws ts=notTaken ws ts:=by
    unfold misuseOf
    rw [takes_of,List.find?_eq_none.mpr fun y hy=>by rw [h3 y hy];simp]
   rw [this]
   exact mv
end
end Fm
namespace Fm
open PySem PySem.Spec PyProof.Rows L2
open Fc (Bytes Size Len Conv Use digits)
def baseOf:Conv→Nat
 | .octal=>8
 | .hex=>16
 | .HEX=>16
 | _=>10
theorem base_pos (c:Conv):2≤baseOf c∧baseOf c≤16:=by cases c<;>decide
def digN (big:Bool) (n:Nat):Nat:=if n < 10 then 48 + n else (if big=true then 65 else 97) + n - 10
def isBig:Conv→Bool
 | .HEX=>true
 | _=>false
def digB (c:Conv) (n:Nat):UInt8:=UInt8.ofNat (digN (isBig c) n)
theorem digN_lt (b:Bool) {n:Nat} (h:n < 16):digN b n < 256:=by
 unfold digN
 split
 ·omega
 ·split<;>omega
theorem digB_val (c:Conv) {n:Nat} (h:n < 16):vb (digB c n)=.int (digN (isBig c) n:Nat):=by
 unfold vb digB
 rw [UInt8.toNat_ofNat']
 rw [Nat.mod_eq_of_lt (digN_lt _ h)]
def dg (c:Conv) (m:Nat):Bytes:=if h:m=0 then [] else dg c (m / baseOf c)++[digB c (m % baseOf c)]
termination_by m
decreasing_by exact Nat.div_lt_self (Nat.pos_of_ne_zero h) (base_pos c).1
theorem dg_zero (c:Conv):dg c 0=[]:=by rw [dg];rfl
theorem dg_pos (c:Conv) {m:Nat} (h:0 < m):dg c m=dg c (m / baseOf c)++[digB c (m % baseOf c)]:=by
 rw [dg,dif_neg (by omega)]
theorem dg_len (c:Conv):∀(k m:Nat),m < 2 ^ k→(dg c m).length≤k
 | 0,m,h=>by
  have:m=0:=by simpa using h
  subst this;rw [dg_zero];exact Nat.le_refl _
 | k + 1,m,h=>by
  by_cases hm:m=0
  ·subst hm;rw [dg_zero];exact Nat.zero_le _
  ·rw [dg_pos c (by omega),List.length_append]
   have h2:=(base_pos c).1
   have h3:m / baseOf c≤m / 2:=Nat.div_le_div_left h2 (by decide)
   have h4:m / 2 < 2 ^ k:=by rw [Nat.pow_succ] at h;omega
   have:=dg_len c k (m / baseOf c) (by omega)
   show _ + 1≤_
   omega
def specDigits (c:Conv) (m:Nat):Bytes:=match c with
 | .octal=>digits 8 m
 | .hex=>digits 16 m
 | .HEX=>(digits 16 m).map Fc.big
 | _=>digits 10 m
theorem digits_snoc {b n d:Nat} (hb:1 < b) (hn:0 < n) (hd:d < b):digits b (b * n + d)=digits b n++digits b d:=by
 unfold digits
 have h:=Nat.toDigits_append_toDigits (b:=b) (n:=n) (d:=d) hb hn hd
 rw [←h,List.map_append]
theorem one8:∀d:_root_.Fin 8,digits 8 d.1=[digB .octal d.1]:=by decide
theorem one10:∀d:_root_.Fin 10,digits 10 d.1=[digB .unsigned d.1]:=by decide
theorem one16:∀d:_root_.Fin 16,digits 16 d.1=[digB .hex d.1]:=by decide
theorem one16b:∀d:_root_.Fin 16,(digits 16 d.1).map Fc.big=[digB .HEX d.1]:=by decide
theorem spec_one (c:Conv) {d:Nat} (h:d < baseOf c):specDigits c d=[digB c d]:=by
 cases c
 ·exact one10 ⟨d,h⟩
 ·exact one10 ⟨d,h⟩
 ·exact one8 ⟨d,h⟩
 ·exact one16 ⟨d,h⟩
 ·exact one16b ⟨d,h⟩
 ·exact one10 ⟨d,h⟩
 ·exact one10 ⟨d,h⟩
theorem spec_snoc (c:Conv) {n d:Nat} (hn:0 < n) (hd:d < baseOf c):specDigits c (baseOf c * n + d)=specDigits c n++[digB c d]:=by
 rw [←spec_one c hd]
 cases c
 ·exact digits_snoc (by decide) hn hd
 ·exact digits_snoc (by decide) hn hd
 ·exact digits_snoc (by decide) hn hd
 ·exact digits_snoc (by decide) hn hd
 ·show (digits 16 (16 * n + d)).map Fc.big=_
  rw [digits_snoc (b:=16) (by decide) hn hd,List.map_append]
  rfl
 ·exact digits_snoc (by decide) hn hd
 ·exact digits_snoc (by decide) hn hd
theorem spec_dg (c:Conv):∀(m:Nat),0 < m→specDigits c m=dg c m:=fun m=>by
 induction m using Nat.strongRecOn with
 | ind m ih=>
  intro hm
  rw [dg_pos c hm]
  obtain ⟨h2,_⟩:=base_pos c
  have hr:m % baseOf c < baseOf c:=Nat.mod_lt _ (by omega)
  by_cases hq:m / baseOf c=0
  ·rw [hq,dg_zero]
   have:m % baseOf c=m:=by
    have:=Nat.div_add_mod m (baseOf c)
    rw [hq] at this
    simpa using this
   rw [this]
   exact spec_one c (by rw [←this];exact hr)
  ·have hq:0 < m / baseOf c:=Nat.pos_of_ne_zero hq
   rw [←ih (m / baseOf c) (Nat.div_lt_self hm h2) hq,←spec_snoc c hq hr,Nat.div_add_mod]
def digsOf (c:Conv) (least m:Nat):Bytes:=List.replicate (least - (dg c m).length) 48++dg c m
theorem figures_digs (d:Fc.Dir) (prec:Option Nat) (m:Nat):Fc.figures d prec m=(let e:=digsOf d.conv (prec.getD 1) m;if d.conv=.octal∧Fc.has d 35=true∧e.head?≠some 48 then 48::e else e):=by
 have key:(let ds:=if m=0∧prec=some 0 then [] else specDigits d.conv m;List.replicate (prec.getD 1 - ds.length) 48++ds)=digsOf d.conv (prec.getD 1) m:=by
  unfold digsOf
  by_cases hm:m=0
  ·subst hm
   rw [dg_zero]
   have e0:specDigits d.conv 0=[48]:=by
    have:=spec_one d.conv (d:=0) (by have:=(base_pos d.conv).1;omega)
    rw [this]
    cases d.conv<;>rfl
   cases prec with
   | none=>simp [e0]
   | some q=>
    cases q with
    | zero=>simp
    | succ q=>
     simp [e0]
     rw [List.replicate_succ']
  ·rw [if_neg (fun z=>hm z.1),spec_dg _ m (by omega)]
 have e1:Fc.figures d prec m=(let ds:=if m=0∧prec=some 0 then [] else specDigits d.conv m;let e:=List.replicate (prec.getD 1 - ds.length) 48++ds;if d.conv=.octal∧Fc.has d 35=true∧e.head?≠some 48 then 48::e else e):=rfl
 rw [e1]
 dsimp only at key ⊢
 rw [key]
def bitsL:Len→Nat
 | .hh=>8
 | .h=>16
 | .plain=>32
 | _=>64
theorem bits_eq (d:Fc.Dir):Fc.bitsOf d=bitsL d.len:=by unfold Fc.bitsOf bitsL;cases d.len<;>rfl
abbrev SPK:List (Key×V):=[(.inr "hh",.int 256),(.inr "h",.int 65536),(.inr "",.int 4294967296),(.inr "l",.int 18446744073709551616),(.inr "ll",.int 18446744073709551616),(.inr "j",.int 18446744073709551616),(.inr "z",.int 18446744073709551616)]
abbrev BSK:List (Key×V):=[(.inl 111,.int 8),(.inl 120,.int 16),(.inl 88,.int 16)]
theorem span_get (L:Len):valV SPK (.inr (lenStr L))=some (.int (2 ^ bitsL L:Nat)):=by cases L<;>decide +kernel
theorem base_get (c:Conv) (i:Bool):(valV BSK (.inl (convByte c i:Nat))).getD (.int 10)=.int (baseOf c:Nat):=by cases c<;>cases i<;>decide +kernel
theorem big_get (c:Conv) (i:Bool):decide (V.int (convByte c i)=V.int 88)=isBig c:=by cases c<;>cases i<;>decide +kernel
structure TDg (P:Program) (w:World) (K:PySem.W.Frag) (mg:Str→Option Value):Prop where
 SPANS:GD P w K mg "SPANS" SPK
 BASES:GD P w K mg "BASES" BSK
 ZERO:GI mg "ZERO" 48
 BA:GI mg "BIG_A" 65
 LA:GI mg "LITTLE_A" 97
 LBX:GI mg "LETTER_BIG_X" 88
 len:mg "len"=none
 list:mg "list"=none
 rev:mg "reversed"=none
def spUns:Sp:=fun vs H Q _=>∃(v:Nat) (L:Len),vs=[.int v,.str (lenStr L)]∧Q (.int (v % 2 ^ bitsL L:Nat)) H
def spSig:Sp:=fun vs H Q _=>∃(v:Nat) (L:Len),vs=[.int v,.str (lenStr L)]∧Q (.int (Fc.signedOf (bitsL L) v)) H
def spDigSign:Sp:=fun vs H Q _=>∃(n:Nat) (c:Conv) (i:Bool),vs=[.int n,.int (convByte c i)]∧n < 16∧Q (vb (digB c n)) H
def spDigits:Sp:=fun vs H Q _=>∃(m:Nat) (c:Conv) (i:Bool) (least:Nat),vs=[.int m,.int (convByte c i),.int least]∧m < 2 ^ 64∧least≤1000∧∀l H',H l=none→H' l=some (.lst ((digsOf c least m).map vb))→Same H H'→Q (.ref l) H'
section
variable {P:Program} {w:World} {K:PySem.W.Frag} {mg:Str→Option Value} {base:Heap}
theorem ok_unsigned_number {f:Addr} {fd:FuncData} (F:Fun K "unsigned_number" "unsigned_number" s_unsigned_number f fd) (T:TDg P w K mg):FnOk P w K mg base CX0 1 f fd ["value","length"] spUns:=by
 refine F.ok sc_unsigned_number (fun vs H Q E h=>?_) (fun cdv A outer s H vs Q E hr h=>?_)
 ·obtain ⟨v,L,rfl,_⟩:=h
  rfl
 ·obtain ⟨v,L,rfl,q⟩:=h
  refine ⟨_,pss_one (ps_ret (pe_op op_mod (pv 0) (pe_gdget T.SPANS (pv 1)))),?_⟩
  refine ⟨_,rfl,_,rfl,.inr (lenStr L),_,rfl,span_get L,_,_,rfl,rfl,?_,?_⟩
  ·have:0 < 2 ^ bitsL L:=Nat.pow_pos (by decide)
   omega
  ·rw [Int.natCast_emod] at q
   exact q
theorem ok_signed_number {f:Addr} {fd:FuncData} (F:Fun K "signed_number" "signed_number" s_signed_number f fd) (T:TDg P w K mg):FnOk P w K mg base CX0 1 f fd ["value","length"] spSig:=by
 refine F.ok sc_signed_number (fun vs H Q E h=>?_) (fun cdv A outer s H vs Q E hr h=>?_)
 ·obtain ⟨v,L,rfl,_⟩:=h
  rfl
 ·obtain ⟨v,L,rfl,q⟩:=h
  refine ⟨_,pss_cons (ps_set (i:=2) sc_signed_number.nd rfl (Or.inl rfl) (pe_gdget T.SPANS (pv 1))) (pss_cons (ps_set (i:=3) sc_signed_number.nd rfl (Or.inl rfl) (pe_op op_mod (pv 0) (pv 2)))
   (pss_one (ps_ret (pe_ifExp (pt_cmpR op_ge (pv 3) (pe_op op_fdiv (pv 2) pe_int) (nomark _)) (pe_op op_sub (pv 3) (pv 2)) (pv 3))))),?_⟩
  have hp:0 < 2 ^ bitsL L:=Nat.pow_pos (by decide)
  have hh:2 ^ bitsL L / 2=2 ^ (bitsL L - 1):=by cases L<;>decide +kernel
  refine ⟨_,rfl,.inr (lenStr L),_,rfl,span_get L,?_⟩
  refine ⟨_,rfl,_,rfl,_,_,rfl,rfl,by omega,?_⟩
  refine ⟨_,rfl,_,rfl,_,_,rfl,rfl,⟨by decide,by decide⟩,_,_,rfl,rfl,_,rfl,?_⟩
  have e1:((v:Nat):Int) % ((2 ^ bitsL L:Nat):Int)=((v % 2 ^ bitsL L:Nat):Int):=(Int.natCast_emod _ _).symm
  have e2:((2 ^ bitsL L:Nat):Int) / 2=((2 ^ (bitsL L - 1):Nat):Int):=by rw [←hh];exact (Int.natCast_ediv _ _).symm
  rw [e1,e2]
  unfold Fc.signedOf at q
  by_cases hl:v % 2 ^ bitsL L < 2 ^ (bitsL L - 1)
  ·rw [if_pos hl] at q
   exact iteB (c:=false) (decide_eq_false (by omega)) (iteF ⟨_,rfl,q⟩)
  ·rw [if_neg hl] at q
   exact iteB (c:=true) (decide_eq_true (by omega)) (iteT ⟨_,rfl,_,rfl,_,_,rfl,rfl,q⟩)
theorem ok_digit_sign {f:Addr} {fd:FuncData} (F:Fun K "digit_sign" "digit_sign" s_digit_sign f fd) (T:TDg P w K mg):FnOk P w K mg base CX0 1 f fd ["digit","conversion"] spDigSign:=by
 refine F.ok sc_digit_sign (fun vs H Q E h=>?_) (fun cdv A outer s H vs Q E hr h=>?_)
 ·obtain ⟨n,c,i,rfl,_⟩:=h
  rfl
 ·obtain ⟨n,c,i,rfl,hn,q⟩:=h
  refine ⟨_,pss_cons (ps_if (pt_cmpR op_lt (pv 0) pe_int (nomark _)) (pss_one (ps_ret (pe_op op_add (pe_gi T.ZERO) (pv 0)))) pss_nil)
   (pss_cons (ps_set (i:=2) sc_digit_sign.nd rfl (Or.inl rfl) (pe_ifExp (pt_cmpR op_eq (pv 1) (pe_gi T.LBX) (nomark _)) (pe_gi T.BA) (pe_gi T.LA)))
   (pss_one (ps_ret (pe_op op_sub (pe_op op_add (pv 2) (pv 0)) pe_int)))),?_⟩
  rw [digB_val c hn] at q
  unfold digN at q
  refine ⟨_,rfl,_,_,rfl,rfl,_,rfl,?_⟩
  by_cases h10:n < 10
  ·rw [if_pos h10] at q
   refine iteB (c:=true) (decide_eq_true (by omega)) (iteT ⟨_,rfl,_,_,rfl,rfl,?_⟩)
   rw [Int.natCast_add] at q
   exact q
  ·rw [if_neg h10] at q
   refine iteB (c:=false) (decide_eq_false (by omega)) (iteF ⟨_,rfl,rfl,_,rfl,iteB (big_get c i) ?_⟩)
   refine ite2 (fun hb=>?_) fun hb=>?_
   ·rw [if_pos hb] at q
    refine ⟨_,rfl,_,rfl,_,_,rfl,rfl,_,_,rfl,rfl,?_⟩
    rw [show ((65 + n - 10:Nat):Int)=65 + (n:Int) - 10 by omega] at q
    exact q
   ·rw [if_neg hb] at q
    refine ⟨_,rfl,_,rfl,_,_,rfl,rfl,_,_,rfl,rfl,?_⟩
    rw [show ((97 + n - 10:Nat):Int)=97 + (n:Int) - 10 by omega] at q
    exact q
theorem ok_digits_of {f:Addr} {fd:FuncData} (F:Fun K "digits_of" "digits_of" s_digits_of f fd) (T:TDg P w K mg) (cSg:Cal P w K mg base CX0 "digit_sign" ["digit","conversion"] 1 spDigSign):FnOk P w K mg base CX0 2 f fd ["magnitude","conversion","least"] spDigits:=by
 refine F.ok sc_digits_of (fun vs H Q E h=>?_) (fun cdv A outer s H vs Q E hr h=>?_)
 ·obtain ⟨m,c,i,least,rfl,_⟩:=h
  rfl
 ·obtain ⟨m,c,i,least,rfl,hm,hle,q⟩:=h
  refine ⟨_,pss_cons (ps_set (i:=3) sc_digits_of.nd rfl (Or.inl rfl) (pe_gdget2 T.BASES (pv 1) pe_int ⟨rfl,rfl,rfl,rfl⟩))
   (pss_cons (ps_set (i:=4) sc_digits_of.nd rfl (Or.inl rfl) (pe_lst pa_nil))
   (pss_cons (ps_set (i:=5) sc_digits_of.nd rfl (Or.inl rfl) (pv 0))
   (pss_cons (ps_while PassesOwn.never (pt_cmpR op_gt (pv 5) pe_int (nomark _))
    (pss_cons (ps_expr (pe_bm PySem.F.plainAttrs_list PySem.F.slot_list_append PySem.F.type_list_append mt_append (pv 4) (pa_cons (pe_cal cSg hr pass0 (pa_cons (pe_op op_mod (pv 5) (pv 3)) (pa_cons (pv 1) pa_nil))) pa_nil)))
    (pss_one (ps_set (i:=5) sc_digits_of.nd rfl (Or.inl rfl) (pe_op op_fdiv (pv 5) (pv 3))))))
   (pss_cons (ps_while PassesOwn.never (pt_cmpR op_lt (pe_callB call_len_seq (by rfl) T.len PySem.boot_len (pa_cons (pv 4) pa_nil)) (pv 2) (nomark _))
    (pss_one (ps_expr (pe_bm PySem.F.plainAttrs_list PySem.F.slot_list_append PySem.F.type_list_append mt_append (pv 4) (pa_cons (pe_gi T.ZERO) pa_nil)))))
   (pss_one (ps_ret (pe_listrev (pv 4) T.list T.rev))))))),?_⟩
  obtain ⟨hb2,hb16⟩:=base_pos c
  refine ⟨_,rfl,.inl (convByte c i:Nat),rfl,?_⟩
  rw [base_get]
  refine ⟨Nat.zero_le _,fun l nl=>?_⟩
  refine ⟨_,rfl,?_⟩
  have dl:=dg_len c 64 m hm
  refine ⟨fun k σ H'=>∃(rest:Nat) (bk:Bytes),k=rest∧dg c m=dg c rest++bk.reverse∧σ=[some (.int m),some (.int (convByte c i)),some (.int least),some (.int (baseOf c:Nat)),some (.ref l),some (.int rest)]∧H' l=some (.lst (bk.map vb))∧Same H H',
   ⟨m,m,[],rfl,by simp,rfl,upd_same,same_new nl⟩,?_⟩
  rintro k σ H1 ⟨rest,bk,rfl,e1,rfl,h1,s1⟩
  have lb:bk.length≤64:=by
   have:=congrArg List.length e1
   rw [List.length_append,List.length_reverse] at this
   omega
  refine ⟨_,rfl,_,_,rfl,rfl,_,rfl,?_⟩
  by_cases h0:0 < k
  ·refine iteB (c:=true) (decide_eq_true (by omega)) (iteT ⟨_,fun σ' H' h=>h,?_⟩)
   have em:((k:Nat):Int) % ((baseOf c:Nat):Int)=((k % baseOf c:Nat):Int):=(Int.natCast_emod _ _).symm
   have ed:((k:Nat):Int) / ((baseOf c:Nat):Int)=((k / baseOf c:Nat):Int):=(Int.natCast_ediv _ _).symm
   have hml:k % baseOf c < baseOf c:=Nat.mod_lt _ (by omega)
   refine ⟨_,rfl,.inl ⟨rfl,_,SqL.of h1⟩,_,rfl,_,rfl,_,_,rfl,rfl,by omega,_,rfl,k % baseOf c,c,i,(by rw [←em];rfl),by omega,l,_,_,rfl,rfl,h1,small1000 (by rw [List.length_map];omega),?_⟩
   refine ⟨_,rfl,_,rfl,_,_,rfl,rfl,⟨by omega,by omega⟩,k / baseOf c,Nat.div_lt_self h0 hb2,k / baseOf c,bk++[digB c (k % baseOf c)],rfl,?_,?_,?_,?_⟩
   ·rw [e1,dg_pos c h0,List.reverse_append,List.append_assoc];rfl
   ·rw [←ed];rfl
   ·rw [upd_same,List.map_append];rfl
   ·intro b o hb;rw [upd_ne (ne_of_none hb nl)];exact s1 b o hb
  ·have hk:k=0:=by omega
   subst hk
   refine iteB (c:=false) (decide_eq_false (by omega)) (iteF ?_)
   rw [dg_zero,List.nil_append] at e1
   have lm:(dg c m).length=bk.length:=by rw [e1,List.length_reverse]
   refine ⟨fun k σ H'=>∃j,k=least - (bk.length + j)∧(j=0∨bk.length + j≤least)∧σ=[some (.int m),some (.int (convByte c i)),some (.int least),some (.int (baseOf c:Nat)),some (.ref l),some (.int 0)]∧H' l=some (.lst ((bk++List.replicate j 48).map vb))∧Same H H',
    ⟨_,0,rfl,.inl rfl,rfl,by rw [List.replicate_zero,List.append_nil];exact h1,s1⟩,?_⟩
   rintro k σ H2 ⟨j,rfl,hj,rfl,h2,s2⟩
   refine ⟨_,rfl,l,_,rfl,.inl (SqL.of h2),_,rfl,_,_,rfl,rfl,_,rfl,?_⟩
   have ll:((bk++List.replicate j 48).map vb).length=bk.length + j:=by rw [List.length_map,List.length_append,List.length_replicate]
   rw [ll]
   by_cases hlt:bk.length + j < least
   ·refine iteB (c:=true) (decide_eq_true (by omega)) (iteT ⟨_,fun σ' H' h=>h,?_⟩)
    refine ⟨_,rfl,.inl ⟨rfl,_,SqL.of h2⟩,l,_,_,rfl,rfl,h2,small1000 (by omega),least - (bk.length + (j + 1)),by omega,j + 1,rfl,.inr (by omega),rfl,?_,?_⟩
    ·rw [upd_same,List.replicate_succ',←List.append_assoc,List.map_append (l₁:=bk++List.replicate j 48)];rfl
    ·intro b o hb;rw [upd_ne (ne_of_none hb nl)];exact s2 b o hb
   ·refine iteB (c:=false) (decide_eq_false (by omega)) (iteF ?_)
    refine ⟨_,rfl,l,_,rfl,SqL.of h2,fun l2 nl2=>?_⟩
    refine q l2 _ (Same.free' s2 nl2) ?_ (Same.trans s2 (same_new nl2))
    rw [upd_same]
    unfold digsOf
    have:least - (dg c m).length=j:=by
     rw [lm]
     rcases hj with z | z<;>omega
    rw [this,e1,←List.map_reverse,List.reverse_append,List.reverse_replicate]
end
end Fm
namespace Fm
open PySem PySem.Spec PyProof.Rows L2
open Fc (Bytes Size Len Conv Use Val signedOf)
theorem lc_rangeC {lo c:Int} {n:Nat} {g:TG} {tt:TT} {te:TE} {vs:List Nat} {σ:L2.St} {H1:Hp} {D:Addr} {Qd:Hp→Prop} (Pv:Nat→Hp→Prop) (h0:Pv 0 (upd H1 D (.lst [])))
 (hs:∀i H,i < n→Pv i H→g (.int (lo + (i:Nat) * c)) (wipe σ vs) H fun σ2 H2=>wipe σ2 vs=wipe σ vs∧tt σ2 H2 fun b H3=>
  if b=true then te σ2 H3 fun y H4=>∃acc,H4 D=some (.lst acc)∧acc.length < sizeLine∧Pv (i + 1) (upd H4 D (.lst (acc++[y]))) else Pv (i + 1) H3) (hd:∀H,Pv n H→Qd H):
 ∃W:Nat→Nat→Hp→Prop,(∃m,W 0 m (upd H1 D (.lst [])))∧∀i m H,W i m H→
  ((Itc lo c n).stop i H∧Qd H)∨((Itc lo c n).go i H∧∃Nx:Hp→Prop,(∀H',Nx H'→∃m',m' < m∧W (i + 1) m' H')∧∀x H',(Itc lo c n).yld i H x H'→g x (wipe σ vs) H' fun σ2 H2=>wipe σ2 vs=wipe σ vs∧tt σ2 H2 fun b H3=>
   if b=true then te σ2 H3 fun y H4=>∃acc,H4 D=some (.lst acc)∧acc.length < sizeLine∧Nx (upd H4 D (.lst (acc++[y]))) else Nx H3):=by
 refine ⟨fun i m H=>m=n - i∧i≤n∧Pv i H,⟨n,rfl,Nat.zero_le _,h0⟩,?_⟩
 rintro i m H ⟨rfl,hi,p⟩
 by_cases hlt:i < n
 ·refine .inr ⟨hlt,Pv (i + 1),fun H' p'=>⟨n - (i + 1),by omega,rfl,hlt,p'⟩,?_⟩
  rintro x H' ⟨rfl,rfl⟩
  exact hs i _ hlt p
 ·obtain rfl:i=n:=by omega
  exact .inl ⟨Nat.le_refl _,hd H p⟩
theorem range3 (n:Nat) (h:n≤1000):RgC 0 ((3 * n:Nat):Int) 3 n:=by
 have e:Builtin.Range.rangeSize 0 ((3 * n:Nat):Int) 3=n:=by
  unfold Builtin.Range.rangeSize
  rw [if_pos (by decide)]
  split<;>omega
 refine ⟨by decide,by decide,?_,e⟩
 have hx:((3 * n:Nat):Int)≤3000∧0≤((3 * n:Nat):Int):=by omega
 have hn:((n:Nat):Int)≤1000∧0≤((n:Nat):Int):=by omega
 unfold Builtin.Range.small
 rw [e]
 generalize ((3 * n:Nat):Int)=x at hx
 generalize ((n:Nat):Int)=y at hn
 have f:∀z:Int,-5000≤z→z≤5000→Builtin.Range.rangeFitsLong z=true:=fun z h1 h2=>by
  unfold Builtin.Range.rangeFitsLong
  rw [Bool.and_eq_true,decide_eq_true_iff,decide_eq_true_iff]
  constructor<;>omega
 simp only [f x (by omega) (by omega),f y (by omega) (by omega),f 0 (by decide) (by decide),f 3 (by decide) (by decide),Bool.true_and,Bool.and_true]
 rw [if_pos (by decide),f (x + (3 - 1)) (by omega) (by omega),Bool.or_true]
def agF (k s v:Int):List (Str×V):=[("kind",.int k),("size",.int s),("value",.int v)]
def ArgAt (Cg:Addr) (H:Hp) (x:Addr) (v:Val):Prop:=∃dx,H x=some (.ins Cg dx (agF v.type v.len v.value))
def ArgsAt (Cg:Addr) (H:Hp) (al:Addr) (xs:List Val):Prop:=∃as:List Addr,H al=some (.lst (as.map V.ref))∧Paired (ArgAt Cg H) as xs
theorem ArgsAt.same {Cg:Addr} {H H':Hp} {al:Addr} {xs:List Val} (h:ArgsAt Cg H al xs) (k:Same H H'):ArgsAt Cg H' al xs:=by
 obtain ⟨as,h1,h2⟩:=h
 exact ⟨as,k _ _ h1,pmono h2 fun x v _ ⟨dx,q⟩=>⟨dx,k _ _ q⟩⟩
structure TAg (K:PySem.W.Frag) (mg:Str→Option Value) (C:Addr):Prop where
 cl:Cls K C
 nKi:NoAttr K C "kind"
 nSi:NoAttr K C "size"
 nVa:NoAttr K C "value"
 len:mg "len"=none
 range:mg "range"=none
 HAM:GI mg "HIGHEST_AMOUNT" 999
 TEXT:GI mg "TEXT" 5
def valsOf:Nat→List Nat→List Val
 | 0,_=>[]
 | n + 1,l=>⟨l.getD 0 0,l.getD 1 0,l.getD 2 0⟩::valsOf n (l.drop 3)
theorem vals_in:∀(n:Nat) (l:List Nat),l.length=3 * n→FcCalls.valsIn l=some (valsOf n l)
 | 0,l,h=>by
  have:l=[]:=List.length_eq_zero_iff.mp (by omega)
  subst this;rfl
 | n + 1,l,h=>by
  match l,h with
  | a::b::c::r,h=>
   have hr:r.length=3 * n:=by simp at h;omega
   rw [FcCalls.valsIn,vals_in n r hr]
   rfl
  | [_,_],h=>simp at h;omega
  | [_],h=>simp at h;omega
  | [],h=>simp at h
theorem vals_none:∀(n:Nat) (l:List Nat),l.length=n→¬l.length % 3=0→FcCalls.valsIn l=none:=fun n=>by
 induction n using Nat.strongRecOn with
 | ind n ih=>
  intro l hl h
  match l,hl,h with
  | a::b::c::r,hl,h=>
   simp at hl h
   rw [FcCalls.valsIn,ih r.length (by omega) r rfl (by omega)]
  | [_,_],_,_=>rfl
  | [_],_,_=>rfl
  | [],_,h=>exact absurd rfl h
theorem valsOf_get:∀(n:Nat) (l:List Nat) (i:Nat),i < n→(valsOf n l)[i]?=some ⟨l.getD (3 * i) 0,l.getD (3 * i + 1) 0,l.getD (3 * i + 2) 0⟩
 | 0,_,i,h=>absurd h (Nat.not_lt_zero i)
 | n + 1,l,0,h=>rfl
 | n + 1,l,i + 1,h=>by
  rw [valsOf,List.getElem?_cons_succ,valsOf_get n (l.drop 3) i (by omega)]
  have e:∀k,(l.drop 3).getD k 0=l.getD (3 + k) 0:=fun k=>by rw [List.getD_eq_getElem?_getD,List.getD_eq_getElem?_getD,List.getElem?_drop]
  rw [e,e,e,show 3 + 3 * i=3 * (i + 1) by omega,show 3 + (3 * i + 1)=3 * (i + 1) + 1 by omega,show 3 + (3 * i + 2)=3 * (i + 1) + 2 by omega]
theorem valsOf_len:∀(n:Nat) (l:List Nat),(valsOf n l).length=n
 | 0,_=>rfl
 | n + 1,l=>by rw [valsOf,List.length_cons,valsOf_len n]
def spAgInit (Cg:Addr):Sp:=fun vs H Q _=>∃(x dx:Addr) (k s v:Int),vs=[.ref x,.int k,.int s,.int v]∧H x=some (.ins Cg dx [])∧∀dd H',H' x=some (.ins Cg dd (agF k s v))→But x H H'→Q .non H'
def spReadArgs (K:PySem.W.Frag) (Cg xa:Addr):Sp:=fun vs H Q E=>∃(nl:Addr) (ns:List Nat),vs=[.ref nl]∧SqL K H nl (natV ns)∧ns.length≤1000∧
 (∀xs,FcCalls.valsIn ns=some xs→∀al H',ArgsAt Cg H' al xs→Same H H'→Q (.ref al) H')∧(FcCalls.valsIn ns=none→Thrown xa H E)
def amtOf (s:Size) (g:Nat) (xs:List Val):Int:=if szStar s=true then signedOf 32 (Fc.valAt xs g).value else (szNum s:Nat)
def spAsked (Ca Cg:Addr):Sp:=fun vs H Q _=>∃(x al:Addr) (s:Size) (g:Nat) (xs:List Val),vs=[.ref x,.ref al]∧AmG Ca H x s g∧ArgsAt Cg H al xs∧(szStar s=true→1≤g∧g≤xs.length)∧Q (.int (amtOf s g xs)) H
section
variable {P:Program} {w:World} {K:PySem.W.Frag} {mg:Str→Option Value} {base:Heap}
theorem ok_Argument_init {f Cg:Addr} {fd:FuncData} (F:Fun K "__init__" "Argument.__init__" s_Argument_init f fd) (T:TAg K mg Cg):FnOk P w K mg base CX0 1 f fd ["self","kind","size","value"] (spAgInit Cg):=by
 refine F.ok sc_Argument_init (fun vs H Q E h=>?_) (fun cdv A outer s H vs Q E hr h=>?_)
 ·obtain ⟨x,dx,k,sz,v,rfl,_⟩:=h
  rfl
 ·obtain ⟨x,dx,k,sz,v,rfl,hx,q⟩:=h
  refine ⟨_,pss_cons (ps_fld (pv 0) (pv 1) rfl) (pss_cons (ps_fld (pv 0) (pv 2) rfl) (pss_one (ps_fld (pv 0) (pv 3) rfl))),?_⟩
  refine ⟨_,rfl,_,rfl,x,Cg,dx,_,rfl,hx,T.cl,T.nKi,(by show 0 < 1000;decide),?_⟩
  refine ⟨_,rfl,_,rfl,x,Cg,dx,_,rfl,upd_same,T.cl,T.nSi,(by show 1 < 1000;decide),?_⟩
  refine ⟨_,rfl,_,rfl,x,Cg,dx,_,rfl,upd_same,T.cl,T.nVa,(by show 2 < 1000;decide),?_⟩
  refine q dx _ upd_same fun b o hb hn=>?_
  rw [upd_ne hn,upd_ne hn,upd_ne hn]
  exact hb
theorem ok_asked_amount {f Ca Cg:Addr} {fd:FuncData} (F:Fun K "asked_amount" "asked_amount" s_asked_amount f fd) (TA:TAm K Ca) (T:TAg K mg Cg) (cSg:Cal P w K mg base CX0 "signed_number" ["value","length"] 1 spSig):FnOk P w K mg base CX0 2 f fd ["amount","arguments"] (spAsked Ca Cg):=by
 refine F.ok sc_asked_amount (fun vs H Q E h=>?_) (fun cdv A outer s H vs Q E hr h=>?_)
 ·obtain ⟨x,al,sz,g,xs,rfl,_⟩:=h
  rfl
 ·obtain ⟨x,al,sz,g,xs,rfl,⟨dx,hx⟩,⟨as,hal,hp⟩,hg,q⟩:=h
  refine ⟨_,pss_cons (ps_if (pt_val (pe_fld (pv 0) rfl)) (pss_one (ps_ret (pe_cal cSg hr pass0 (pa_cons (pe_fld (pe_ix ix_list (pv 1) (pe_op op_sub (pe_fld (pv 0) rfl) pe_int) (fun _ _=>rfl)) rfl) (pa_cons pe_str pa_nil))))) pss_nil)
   (pss_one (ps_ret (pe_fld (pv 0) rfl))),?_⟩
  refine ⟨_,rfl,x,Ca,dx,_,_,rfl,hx,TA.cl,TA.nSt,rfl,_,rfl,?_⟩
  unfold amtOf at q
  refine ite2 (fun hs=>?_) fun hs=>?_
  ·rw [if_pos hs] at q
   obtain ⟨h1,h2⟩:=hg hs
   have la:=hp.length
   obtain ⟨y,hy⟩:∃y,as[g - 1]?=some y:=⟨_,List.getElem?_eq_getElem (by omega)⟩
   obtain ⟨v,hv,d2,hy2⟩:=pgetL hp hy
   have eg:((g:Nat):Int) - 1=((g - 1:Nat):Int):=by omega
   have ev:Fc.valAt xs g=v:=by unfold Fc.valAt;rw [List.getD_eq_getElem?_getD,hv];rfl
   rw [ev] at q
   refine ⟨_,rfl,_,rfl,x,Ca,dx,_,_,rfl,hx,TA.cl,TA.nAr,rfl,_,_,rfl,rfl,al,_,_,V.ref y,rfl,rfl,SqL.of hal,?_,y,Cg,d2,_,_,rfl,hy2,T.cl,T.nVa,rfl,v.value,.plain,rfl,q⟩
   show atI (as.map V.ref) (((g:Nat):Int) - 1)=_
   rw [eg]
   exact atI_nat (j:=g - 1) (by rw [List.getElem?_map,hy];rfl)
  ·rw [if_neg hs] at q
   exact ⟨_,rfl,x,Ca,dx,_,_,rfl,hx,TA.cl,TA.nNu,rfl,q⟩
theorem ok_read_arguments {f Cg xa:Addr} {fd:FuncData} (F:Fun K "read_arguments" "read_arguments" s_read_arguments f fd) (T:TAg K mg Cg) (cAg:CalC P w K mg base Cg "Argument" ["self","kind","size","value"] 1 (spAgInit Cg)) (cX:CalX0 K mg xa "WrongArguments"):
 FnOk P w K mg base (CXe P w) 3 f fd ["numbers"] (spReadArgs K Cg xa):=by
 refine F.okx sc_read_arguments (fun vs H Q E h=>?_) (fun cdv A outer s H vs Q E hr h=>?_)
 ·obtain ⟨nl,ns,rfl,_⟩:=h
  rfl
 ·obtain ⟨nl,ns,rfl,hs,hl,qo,qe⟩:=h
  refine ⟨_,pss_cons (ps_if (pt_cmpR op_ne (pe_op op_mod (pe_callB call_len_seq (by rfl) T.len PySem.boot_len (pa_cons (pv 0) pa_nil)) pe_int) pe_int (nomark _)) (pss_one (ps_raise0 cX leave_ok)) pss_nil)
   (pss_one (ps_ret (pe_lc rfl sc_read_arguments.nd (pi_range3 rfl T.range (pa_cons pe_int (pa_cons (pe_callB call_len_seq (by rfl) T.len PySem.boot_len (pa_cons (pv 0) pa_nil)) (pa_cons pe_int pa_nil)))) (own:=[("at",1)])
    (te:=tMake Cg (spAgInit Cg) [] E0 (tCons (tOp (rIxL K) (tVar 0) (tVar 1)) (tCons (tOp (rIxL K) (tVar 0) (tOp (rI0 fun i j=>.int (i + j)) (tVar 1) (tC (.int 1)))) (tCons (tOp (rIxL K) (tVar 0) (tOp (rI0 fun i j=>.int (i + j)) (tVar 1) (tC (.int 2)))) tNil)))) (blkOk_by rfl)
    (fun _ _ _ _ _=>pg_name (i:=1) sc_read_arguments.nd rfl (Or.inl rfl)) (fun _ _ _ _ _=>pts_nil)
    (fun _ _ _ _ _=>pe_calc cAg hr (pa_cons (pe_ix ix_list (pv 0) (pv 1) (fun _ _=>rfl)) (pa_cons (pe_ix ix_list (pv 0) (pe_op op_add (pv 1) pe_int) (fun _ _=>rfl)) (pa_cons (pe_ix ix_list (pv 0) (pe_op op_add (pv 1) pe_int) (fun _ _=>rfl)) pa_nil))))))),?_⟩
  have nvl:(natV ns).length=ns.length:=List.length_map _
  refine ⟨_,rfl,nl,_,rfl,.inl hs,_,_,rfl,rfl,(by show (0:Int) < 3;decide),rfl,_,rfl,?_⟩
  rw [nvl]
  have em:(((ns.length:Nat):Int) % 3)=((ns.length % 3:Nat):Int):=(Int.natCast_emod _ _).symm
  by_cases h3:ns.length % 3=0
  ·refine iteB (c:=false) (by show (!decide (V.int (((ns.length:Nat):Int) % 3)=V.int 0))=false;rw [em,h3];rfl) (iteF ?_)
   obtain ⟨n,hn⟩:∃n,ns.length=3 * n:=⟨ns.length / 3,by omega⟩
   refine ⟨_,rfl,nl,_,rfl,.inl hs,0,_,3,n,rfl,?_,fun D hD=>?_⟩
   ·rw [nvl,hn];exact range3 n (by omega)
   have gv:∀k,k < ns.length→(natV ns)[k]?=some (V.int (ns.getD k 0:Nat)):=fun k hk=>by
    unfold natV
    rw [List.getElem?_map,List.getElem?_eq_getElem hk,List.getD_eq_getElem?_getD,List.getElem?_eq_getElem hk];rfl
   refine lc_rangeC (n:=n) (fun i H'=>∃as:List Addr,H' D=some (.lst (as.map V.ref))∧Paired (ArgAt Cg H') as ((valsOf n ns).take i)∧Same H H') ⟨[],upd_same,.nil,same_new hD⟩ (fun i H' hi h=>?_) fun H' h=>?_
   ·obtain ⟨as,h1,h2,s1⟩:=h
    have e0:(0:Int) + (i:Nat) * 3=((3 * i:Nat):Int):=by omega
    rw [e0]
    have e1:((3 * i:Nat):Int) + 1=((3 * i + 1:Nat):Int):=by omega
    have e2:((3 * i:Nat):Int) + 2=((3 * i + 2:Nat):Int):=by omega
    have hs1:=SqL.same hs s1
    have lt:as.length≤1000:=by
     have:=h2.length
     rw [this,List.length_take,valsOf_len]
     omega
    refine ⟨rfl,_,rfl,_,rfl,nl,_,_,V.int (ns.getD (3 * i) 0:Nat),rfl,rfl,hs1,atI_nat (j:=3 * i) (gv _ (by omega)),
     _,rfl,_,rfl,_,_,rfl,rfl,nl,_,_,V.int (ns.getD (3 * i + 1) 0:Nat),rfl,rfl,hs1,(by show atI (natV ns) (((3 * i:Nat):Int) + 1)=_;rw [e1];exact atI_nat (j:=3 * i + 1) (gv _ (by omega))),
     _,rfl,_,rfl,_,_,rfl,rfl,nl,_,_,V.int (ns.getD (3 * i + 2) 0:Nat),rfl,rfl,hs1,(by show atI (natV ns) (((3 * i:Nat):Int) + 2)=_;rw [e2];exact atI_nat (j:=3 * i + 2) (gv _ (by omega))),fun x dxx nx nd nxd=>?_⟩
    refine ⟨x,dxx,_,_,_,rfl,upd_same,fun dd H2 hx2 b2=>⟨rfl,as.map V.ref,?_,small1000 (by rw [List.length_map];exact lt),as++[x],?_,?_,?_⟩⟩
    ·have s2:Same H' H2:=amNew nx nd b2
     exact s2 _ _ h1
    ·rw [upd_same,List.map_append];rfl
    ·have s2:Same H' H2:=amNew nx nd b2
     have xD:x≠D:=(ne_of_none h1 nx).symm
     rw [take_snoc (valsOf_get n ns i hi)]
     refine Paired.snoc (pmono h2 fun b v _ ⟨d3,q3⟩=>⟨d3,?_⟩) ⟨dd,by rw [upd_ne xD];exact hx2⟩
     rw [upd_ne (ne_of q3 h1 (by intro z;cases z))]
     exact s2 _ _ q3
    ·have s2:Same H' H2:=amNew nx nd b2
     intro b o hb
     rw [upd_ne (ne_of_none hb hD)]
     exact s2 b o (s1 b o hb)
   ·obtain ⟨as,h1,h2,s1⟩:=h
    have ll:=valsOf_len n ns
    rw [List.take_of_length_le (by omega)] at h2
    exact qo _ (vals_in n ns hn) D H' ⟨as,h1,h2⟩ s1
  ·refine iteB (c:=true) ?_ (iteT fun e H2 g1 g2=>qe (vals_none _ ns rfl h3) H2 g2)
   show (!decide (V.int (((ns.length:Nat):Int) % 3)=V.int 0))=true
   rw [em,decide_eq_false]
   ·rfl
   ·intro z
    have:=V.int.inj z
    omega
end
end Fm
namespace Fm
open PySem PySem.Spec PyProof.Rows L2
open Fc (Bytes Size Len Conv Use Val signedOf Piece uses)
def fitOf (us:List Use) (ws:List (Nat×Nat)) (xs:List Val) (pool:Bytes):Bool:=(misuseOf us ws (xs.map fun (v:Val)=>v.type)).isNone&&xs.all fun (v:Val)=>v.type != 5||decide (v.value + v.len≤pool.length)
def okN (xs:List Val) (n:Nat):Bool:=decide ((signedOf 32 (Fc.valAt xs n).value).natAbs≤Fc.WIDE)
def sizedOf (us:List Use) (xs:List Val):Bool:=us.all fun (u:Use)=>(u.width.toList++u.prec.toList).all (okN xs)
theorem takes_mem {us:List Use} {u:Use} (k:Nat) (h:u∈us):∃j,∀x∈u.wants,(j,x.1,x.2)∈takesFrom k us:=by
 induction us generalizing k with
 | nil=>cases h
 | cons v us ih=>
  rcases List.mem_cons.mp h with rfl | h
  ·exact ⟨k,fun x hx=>List.mem_append_left _ (List.mem_map.mpr ⟨x,hx,rfl⟩)⟩
  ·obtain ⟨j,hj⟩:=ih (k + 1) h
   exact ⟨j,fun x hx=>List.mem_append_right _ (hj x hx)⟩
theorem good_of {us:List Use} {ws:List (Nat×Nat)} {ts:List Nat} (h:misuseOf us ws ts=none):∀u∈us,∀x∈u.wants,ts[x.1 - 1]?=some x.2:=fun u hu x hx=>by
 unfold misuseOf at h
 cases e:(takesOf us).find? (badT ts) with
 | some y=>rw [e] at h;cases h
 | none=>
  rw [takes_of] at e
  obtain ⟨j,hj⟩:=takes_mem 0 hu
  have:=List.find?_eq_none.mp e _ (hj x hx)
  unfold badT at this
  simpa using this
def starSG (u:Use):List (Size×Nat):=(if szStar u.dir.width=true then [(u.dir.width,u.width.getD 0)] else [])++(if szStar u.dir.prec=true then [(u.dir.prec,u.prec.getD 0)] else [])
theorem starSG_ok {u:Use} (h:UseOk u):(starSG u).map (·.2)=u.width.toList++u.prec.toList∧∀y∈starSG u,szStar y.1=true∧(y.2,1)∈u.wants:=by
 obtain ⟨h1,h2⟩:=h
 unfold starSG Use.wants
 rw [←h1,←h2]
 cases hw:u.width<;>cases hp:u.prec<;>rw [hw] at h1<;>rw [hp] at h2<;>simp at h1 h2 ⊢
 ·exact ⟨h2,.inl rfl⟩
 ·exact ⟨h1,.inl rfl⟩
 ·exact ⟨⟨h1,.inl rfl⟩,h2,.inr (.inl rfl)⟩
theorem DirX.sg {Cd Ca:Addr} {H:Hp} {x dx fl w p:Addr} {u:Use} {place size:Nat} (h:DirX Cd Ca H x dx fl w p u.dir place size u.arg (u.width.getD 0) (u.prec.getD 0)):Paired (fun z (y:Size×Nat)=>AmG Ca H z y.1 y.2) (starsOf u.dir w p) (starSG u):=by
 obtain ⟨_,_,h1,h2⟩:=h
 unfold starsOf starSG
 cases szStar u.dir.width<;>cases szStar u.dir.prec
 ·exact .nil
 ·exact .cons h2 .nil
 ·exact .cons h1 .nil
 ·exact .cons h1 (.cons h2 .nil)
def spCheck (K:PySem.W.Frag) (Cf Cd Ca Cg xa xm:Addr):Sp:=fun vs H Q E=>∃(a al pl:Addr) (N:Addr→Prop) (bs:Bytes) (us:List Use) (ws:List (Nat×Nat)) (xs:List Val) (pool:Bytes),vs=[.ref a,.ref al,.ref pl]∧FmtAt Cf Cd Ca N H a bs us ws∧ArgsAt Cg H al xs∧SqL K H pl (pool.map vb)∧xs.length≤1000∧
 (∀u∈us,UseOk u∧∀x∈u.wants,1≤x.1)∧us.length≤32∧(fitOf us ws xs pool=true→sizedOf us xs=true→∀H',Same H H'→Q .non H')∧(fitOf us ws xs pool=false→Thrown xa H E)∧(fitOf us ws xs pool=true→sizedOf us xs=false→Thrown xm H E)
theorem Thrown.same {C:Addr} {H H1:Hp} {E:XK} (h:Thrown C H E) (s:Same H H1):Thrown C H1 E:=fun H' k=>h H' (Same.trans s k)
section
variable {P:Program} {w:World} {K:PySem.W.Frag} {mg:Str→Option Value} {base:Heap}
theorem ok_check_arguments {f Cf Cd Ca Cg xa xm:Addr} {fd:FuncData} (F:Fun K "check_arguments" "check_arguments" s_check_arguments f fd) (TF:TFm K mg Cf) (T:TAg K mg Cg) (cMis:Cal P w K mg base CX0 "first_misuse" ["found","kinds"] 3 (spMisuse K Cf Cd Ca)) (cSt:Cal P w K mg base CX0 "stars" ["directive"] 1 (spStars Cd Ca))
 (cAsk:Cal P w K mg base CX0 "asked_amount" ["amount","arguments"] 2 (spAsked Ca Cg)) (cXa:CalX0 K mg xa "WrongArguments") (cXm:CalX0 K mg xm "WrongAmount"):FnOk P w K mg base (CXe P w) 4 f fd ["found","arguments","pool"] (spCheck K Cf Cd Ca Cg xa xm):=by
 refine F.okx sc_check_arguments (fun vs H Q E h=>?_) (fun cdv A outer s H vs Q E hr h=>?_)
 ·obtain ⟨a,al,pl,N,bs,us,ws,xs,pool,rfl,_⟩:=h
  rfl
 ·obtain ⟨a,al,pl,N,bs,us,ws,xs,pool,rfl,fa,ag,hpl,hxl,hus,h32,qo,qa,qm⟩:=h
  have hr1:Room 1 _:=hr.mono (by decide)
  have hr2:Room 2 _:=hr.mono (by decide)
  refine ⟨_,pss_cons (ps_if (pt_cmpR op_notN (pe_cal cMis hr pass0 (pa_cons (pv 0) (pa_cons (pe_lc rfl sc_check_arguments.nd (pi_list (pv 1)) (own:=[("argument",3)]) (te:=tFld K (tVar 3) "kind") (blkOk_by rfl)
   (fun _ _ _ _ _=>pg_name (i:=3) sc_check_arguments.nd rfl (Or.inl rfl)) (fun _ _ _ _ _=>pts_nil) (fun _ _ _ _ _=>pe_fld (pv 3) rfl)) pa_nil))) pe_non (nomark _)) (pss_one (ps_raise0 cXa leave_ok)) pss_nil)
   (pss_cons (ps_for PassesOwn.leaving rfl (pi_list (pv 1)) (pg_name (i:=3) sc_check_arguments.nd rfl (Or.inl rfl))
    (pss_one (ps_if (pw_and (pt_cmpR op_eq (pe_fld (pv 3) rfl) (pe_gi T.TEXT) (nomark _)) (pw_and1 (pt_cmpR op_gt (pe_op op_add (pe_fld (pv 3) rfl) (pe_fld (pv 3) rfl)) (pe_callB call_len_seq (by rfl) T.len PySem.boot_len (pa_cons (pv 2) pa_nil)) (nomark _)))).pt (pss_one (ps_raise0 cXa leave_ok)) pss_nil)))
   (pss_one (ps_for PassesOwn.leaving rfl (pi_list (pe_fld (pv 0) rfl)) (pg_name (i:=4) sc_check_arguments.nd rfl (Or.inl rfl))
    (pss_one (ps_for PassesOwn.leaving rfl (pi_list (pe_cal cSt hr1 pass0 (pa_cons (pv 4) pa_nil))) (pg_name (i:=5) sc_check_arguments.nd rfl (Or.inl rfl))
     (pss_one (ps_if (pt_not (pt_chain op_le op_le (pe_un un_neg (pe_gi T.HAM)) (pe_cal cAsk hr2 pass0 (pa_cons (pv 5) (pa_cons (pv 1) pa_nil))) (pe_gi T.HAM))) (pss_one (ps_raise0 cXm leave_ok)) pss_nil))))))),?_⟩
  obtain ⟨as,hal,hag⟩:=id ag
  have las:=hag.length
  refine ⟨_,rfl,_,rfl,al,rfl,⟨_,SqL.of hal⟩,fun D hD=>?_⟩
  have aD:al≠D:=ne_of_none hal hD
  refine lc_list (xs:=as.map V.ref) (fun i H'=>H' D=some (.lst (natV ((xs.map fun (v:Val)=>v.type).take i)))∧Same H H') ⟨upd_same,same_new hD⟩ (fun i H' _ h=>SqL.of (h.2 _ _ hal)) (fun i y H' hi h=>?_) fun H1 h=>?_
  ·obtain ⟨h1,s1⟩:=h
   rw [List.getElem?_map] at hi
   obtain ⟨z,hz,rfl⟩:=Option.map_eq_some_iff.mp hi
   obtain ⟨v,hv,dz,hz1⟩:=pgetL hag hz
   refine ⟨rfl,_,rfl,z,Cg,dz,_,_,rfl,s1 _ _ hz1,T.cl,T.nKi,rfl,_,h1,small1000 ?_,?_,?_⟩
   ·unfold natV
    rw [List.length_map,List.length_take,List.length_map]
    omega
   ·rw [upd_same,take_snoc (x:=v.type) (by rw [List.getElem?_map,hv];rfl)]
    unfold natV
    rw [List.map_append]
    rfl
   ·intro b o hb;rw [upd_ne (ne_of_none hb hD)];exact s1 b o hb
  ·obtain ⟨h1,s1⟩:=h
   rw [List.length_map,las,List.take_of_length_le (by rw [List.length_map];exact Nat.le_refl _)] at h1
   refine ⟨a,D,N,bs,us,ws,_,rfl,fa.keep (Same.keep s1),SqL.of h1,by rw [List.length_map];exact hxl,hus,h32,fun v H2 mv s2=>⟨rfl,_,rfl,?_⟩⟩
   have S2:=Same.trans s1 s2
   cases hm:misuseOf us ws (xs.map fun (v:Val)=>v.type) with
   | some y=>
    rw [hm] at mv
    obtain ⟨t,rfl,_⟩:=mv
    have hf:fitOf us ws xs pool=false:=by unfold fitOf;rw [hm];rfl
    exact iteT fun e H3 g1 g2=>(qa hf).same S2 H3 g2
   | none=>
    rw [hm] at mv
    have mv:v=.non:=mv
    subst mv
    refine iteF ?_
    have gd:=good_of hm
    have hfit:fitOf us ws xs pool=xs.all fun (v:Val)=>v.type != 5||decide (v.value + v.len≤pool.length):=by unfold fitOf;rw [hm];rfl
    refine ⟨_,rfl,al,rfl,⟨_,SqL.of (S2 _ _ hal)⟩,?_⟩
    refine for_list (xs:=as.map V.ref) (fun i σ H'=>H2=H'∧(∃v3 v4 v5,σ=[some (.ref a),some (.ref al),some (.ref pl),v3,v4,v5])∧(xs.take i).all (fun (v:Val)=>v.type != 5||decide (v.value + v.len≤pool.length))=true) ⟨rfl,⟨_,_,_,rfl⟩,rfl⟩ (fun i σ H' _ h=>by rw [←h.1];exact SqL.of (S2 _ _ hal)) (fun i y σ H' hi h=>?_) fun σ H' h=>?_
    ·obtain ⟨rfl,⟨v3,v4,v5,rfl⟩,hall⟩:=h
     rw [List.getElem?_map] at hi
     obtain ⟨z,hz,rfl⟩:=Option.map_eq_some_iff.mp hi
     obtain ⟨v,hv,dz,hz1⟩:=pgetL hag hz
     have hz2:=S2 _ _ hz1
     have next:(v.type != 5||decide (v.value + v.len≤pool.length))=true→(xs.take (i + 1)).all (fun (v:Val)=>v.type != 5||decide (v.value + v.len≤pool.length))=true:=fun hv'=>by
      rw [take_snoc hv,List.all_append,hall,List.all_cons,hv'];rfl
     refine ⟨_,rfl,z,Cg,dz,_,_,rfl,hz2,T.cl,T.nKi,rfl,rfl,_,rfl,?_⟩
     by_cases h5:v.type=5
     ·refine iteB (c:=true) (decide_eq_true (by rw [h5];rfl)) (iteT ?_)
      refine ⟨_,rfl,z,Cg,dz,_,_,rfl,hz2,T.cl,T.nVa,rfl,_,rfl,z,Cg,dz,_,_,rfl,hz2,T.cl,T.nSi,rfl,_,_,rfl,rfl,_,rfl,pl,_,rfl,.inl (SqL.same hpl S2),_,_,rfl,rfl,_,rfl,?_⟩
      by_cases hb:v.value + v.len≤pool.length
      ·refine iteB (c:=false) (decide_eq_false (by rw [List.length_map];omega)) (iteF ⟨rfl,⟨_,_,_,rfl⟩,next (by rw [decide_eq_true hb,Bool.or_true])⟩)
      ·refine iteB (c:=true) (decide_eq_true (by rw [List.length_map];omega)) (iteT fun e H3 g1 g2=>(qa ?_).same S2 H3 g2)
       rw [hfit]
       refine Bool.eq_false_iff.mpr fun hall'=>?_
       rw [List.all_eq_true] at hall'
       have:=hall' v (List.mem_of_getElem? hv)
       rw [decide_eq_false hb,h5] at this
       cases this
     ·refine iteB (c:=false) (decide_eq_false (by intro z;have:=V.int.inj z;omega)) (iteF (iteF ⟨rfl,⟨_,_,_,rfl⟩,next (by simp [h5])⟩))
    ·obtain ⟨rfl,⟨v3,v4,v5,rfl⟩,hall⟩:=h
     rw [List.length_map,las,List.take_length] at hall
     rw [hfit,hall] at qo qm
     have qo:=qo rfl
     have qm:=qm rfl
     obtain ⟨dx,rl,dl,kd,ds,kvs,fx⟩:=fa.keep (Same.keep S2)
     have lds:=fx.us.length
     refine ⟨_,rfl,a,Cf,dx,_,_,rfl,fx.ha,TF.cl,TF.nDir,rfl,dl,rfl,⟨_,SqL.of fx.hd⟩,?_⟩
     refine for_list (xs:=ds.map V.ref) (fun i σ H'=>Same H2 H'∧(∃v3 v4 v5,σ=[some (.ref a),some (.ref al),some (.ref pl),v3,v4,v5])∧sizedOf (us.take i) xs=true) ⟨fun _ _ h=>h,⟨_,_,_,rfl⟩,rfl⟩ (fun i σ H' _ h=>SqL.of (h.1 _ _ fx.hd)) (fun i y σ H3 hi h=>?_) fun σ H' h=>?_
     ·obtain ⟨s3,⟨v3,v4,v5,rfl⟩,hsz⟩:=h
      rw [List.getElem?_map] at hi
      obtain ⟨x,hx,rfl⟩:=Option.map_eq_some_iff.mp hi
      obtain ⟨u,hu,ua⟩:=pgetL fx.us hx
      have hum:=List.mem_of_getElem? hu
      obtain ⟨uok,u1⟩:=hus u hum
      obtain ⟨sg1,sg2⟩:=starSG_ok uok
      obtain ⟨nx,dd,fl,wd,pr,n1,n2,n3,wp,hx2,hfl,hw,hp⟩:=DirG.keep ua (Same.keep s3)
      refine ⟨_,rfl,x,dd,fl,wd,pr,_,_,_,_,_,_,rfl,⟨hx2,hfl,hw,hp⟩,fun l H4 nl hl s4=>⟨l,rfl,⟨_,SqL.of hl⟩,?_⟩⟩
      have D4:DirX Cd Ca H4 x dd fl wd pr u.dir _ _ u.arg (u.width.getD 0) (u.prec.getD 0):=DirX.same ⟨hx2,hfl,hw,hp⟩ s4
      have ps:=D4.sg
      have S4:=Same.trans S2 (Same.trans s3 s4)
      refine for_list (xs:=(starsOf u.dir wd pr).map V.ref) (fun j σ H'=>H4=H'∧(∃v5,σ=[some (.ref a),some (.ref al),some (.ref pl),v3,some (.ref x),v5])∧(((starSG u).take j).map (·.2)).all (okN xs)=true) ⟨rfl,⟨_,rfl⟩,rfl⟩ (fun j σ H' _ h=>by rw [←h.1];exact SqL.of hl) (fun j y σ H' hj h=>?_) fun σ H' h=>?_
      ·obtain ⟨rfl,⟨w5,rfl⟩,hok⟩:=h
       rw [List.getElem?_map] at hj
       obtain ⟨z,hz,rfl⟩:=Option.map_eq_some_iff.mp hj
       obtain ⟨⟨sz,g⟩,hg,am⟩:=pgetL ps hz
       obtain ⟨st,wm⟩:=sg2 _ (List.mem_of_getElem? hg)
       have g1:1≤g:=u1 _ wm
       have g2:g≤xs.length:=by
        have:=gd u hum _ wm
        have:=(List.getElem?_eq_some_iff.mp this).1
        rw [List.length_map] at this
        show g≤xs.length
        have this:g - 1 < xs.length:=this
        omega
       refine ⟨_,rfl,_,rfl,_,rfl,z,al,sz,g,xs,rfl,am,ag.same S4,fun _=>⟨g1,g2⟩,_,_,rfl,rfl,_,rfl,?_⟩
       have ea:amtOf sz g xs=signedOf 32 (Fc.valAt xs g).value:=by unfold amtOf;rw [if_pos st]
       obtain ⟨n,hV⟩:∃n,signedOf 32 (Fc.valAt xs g).value=n:=⟨_,rfl⟩
       rw [hV] at ea
       have fin:okN xs g=decide (n.natAbs≤999):=by unfold okN Fc.WIDE;rw [hV]
       have good:n.natAbs≤999→(H4=H4∧(∃v5,[some (V.ref a),some (.ref al),some (.ref pl),v3,some (.ref x),some (.ref z)]=[some (.ref a),some (.ref al),some (.ref pl),v3,some (.ref x),v5])∧(((starSG u).take (j + 1)).map (·.2)).all (okN xs)=true):=fun hn=>⟨rfl,⟨_,rfl⟩,by
        rw [take_snoc hg,List.map_append,List.all_append,hok]
        show (true&&(okN xs g&&true))=true
        rw [fin,decide_eq_true hn];rfl⟩
       have badS:¬n.natAbs≤999→sizedOf us xs=false:=fun hn=>Bool.eq_false_iff.mpr fun hall'=>by
        unfold sizedOf at hall'
        rw [List.all_eq_true] at hall'
        have:=hall' u hum
        rw [←sg1,List.all_eq_true] at this
        have:=this g (List.mem_map.mpr ⟨_,List.mem_of_getElem? hg,rfl⟩)
        rw [fin,decide_eq_false hn] at this
        cases this
       by_cases h1:-999≤n
       ·refine iteB (c:=true) (decide_eq_true (by rw [ea];exact h1)) (iteT ⟨_,_,rfl,rfl,_,rfl,?_⟩)
        by_cases h2:n≤999
        ·exact iteB (c:=false) (by rw [ea,decide_eq_true h2];rfl) (iteF (good (by omega)))
        ·exact iteB (c:=true) (by rw [ea,decide_eq_false h2];rfl) (iteT fun e H5 g1 g2=>(qm (badS (by omega))).same S4 H5 g2)
       ·refine iteB (c:=false) (decide_eq_false (by rw [ea];exact h1)) (iteF ⟨_,rfl,iteT fun e H5 g1 g2=>(qm (badS (by omega))).same S4 H5 g2⟩)
      ·obtain ⟨rfl,⟨w5,rfl⟩,hok⟩:=h
       rw [List.length_map,ps.length,List.take_length,sg1] at hok
       refine ⟨Same.trans s3 s4,⟨_,_,_,rfl⟩,?_⟩
       unfold sizedOf at hsz ⊢
       rw [take_snoc hu,List.all_append,hsz,List.all_cons,hok]
       rfl
     ·obtain ⟨s3,⟨v3,v4,v5,rfl⟩,hsz⟩:=h
      rw [List.length_map,lds,List.take_length] at hsz
      exact qo hsz _ (Same.trans S2 s3)
end
end Fm
namespace Fm
open PySem PySem.Spec PyProof.Rows L2
open Fc (Bytes Size Len Conv Use Val signedOf has figures lead textOf)
def fdF (l1 l2:Addr):List (Str×V):=[("before",.ref l1),("body",.ref l2)]
def FieldAt (Ce:Addr) (H:Hp) (x:Addr) (bf bd:Bytes):Prop:=∃dx l1 l2,H x=some (.ins Ce dx (fdF l1 l2))∧H l1=some (.lst (bf.map vb))∧H l2=some (.lst (bd.map vb))
structure TFd (K:PySem.W.Frag) (mg:Str→Option Value) (C:Addr):Prop where
 cl:Cls K C
 nBe:NoAttr K C "before"
 nBo:NoAttr K C "body"
 len:mg "len"=none
 min:mg "min"=none
 max:mg "max"=none
 abs:mg "abs"=none
 LO:GI mg "LETTER_O" 111
 PERCENT:GI mg "PERCENT" 37
def spFdInit (Ce:Addr):Sp:=fun vs H Q _=>∃(x dx l1 l2:Addr),vs=[.ref x,.ref l1,.ref l2]∧H x=some (.ins Ce dx [])∧∀dd H',H' x=some (.ins Ce dd (fdF l1 l2))→But x H H'→Q .non H'
def plainOf:Bytes→Bytes
 | []=>[]
 | c::r=>if c=37 then 37::plainOf r.tail else c::plainOf r
termination_by b=>b.length
decreasing_by
 ·simp;omega
 ·simp
theorem plain_nil:plainOf []=[]:=by rw [plainOf]
theorem plain_37 (r:Bytes):plainOf (37::r)=37::plainOf r.tail:=by rw [plainOf,if_pos rfl]
theorem plain_ne {c:UInt8} (r:Bytes) (h:c≠37):plainOf (c::r)=c::plainOf r:=by rw [plainOf,if_neg h]
def spPlain (K:PySem.W.Frag):Sp:=fun vs H Q _=>∃(rl:Addr) (bg en:Nat) (bs:Bytes),vs=[.ref rl,.int bg,.int en]∧SqL K H rl (bs.map vb)∧en≤bs.length∧bs.length≤1000∧∀l H',H l=none→H' l=some (.lst ((plainOf ((bs.drop bg).take (en - bg))).map vb))→Same H H'→Q (.ref l) H'
def precOf (s:Size) (g:Nat) (xs:List Val):Option Nat:=if szPres s=true∧0≤amtOf s g xs then some (amtOf s g xs).toNat else none
def optV:Option Nat→V
 | none=>.non
 | some n=>.int (n:Nat)
def spAskedP (Cd Ca Cg:Addr):Sp:=fun vs H Q _=>∃(x al dx fl w p:Addr) (u:Use) (place size:Nat) (xs:List Val),vs=[.ref x,.ref al]∧DirX Cd Ca H x dx fl w p u.dir place size u.arg (u.width.getD 0) (u.prec.getD 0)∧ArgsAt Cg H al xs∧(szStar u.dir.prec=true→1≤u.prec.getD 0∧u.prec.getD 0≤xs.length)∧
 Q (optV (precOf u.dir.prec (u.prec.getD 0) xs)) H
def cutT (v:Val) (po:Option Nat) (pool:Bytes):Bytes:=match po with
 | some q=>(textOf v pool).take q
 | none=>textOf v pool
def spShown (K:PySem.W.Frag) (Cg:Addr):Sp:=fun vs H Q _=>∃(x pl:Addr) (v:Val) (po:Option Nat) (pool:Bytes),vs=[.ref x,optV po,.ref pl]∧ArgAt Cg H x v∧SqL K H pl (pool.map vb)∧v.value + v.len≤pool.length∧∀l H',H l=none→H' l=some (.lst ((cutT v po pool).map vb))→Same H H'→Q (.ref l) H'
def signB (d:Fc.Dir) (n:Int):Bytes:=if n < 0 then [45] else (if has d 43=true then [43] else [])++(if has d 32=true then [32] else [])
def spSignOf (Cd Ca:Addr):Sp:=fun vs H Q _=>∃(x dx fl w p:Addr) (d:Fc.Dir) (place size arg wa pa:Nat) (n:Int),vs=[.ref x,.int n]∧DirX Cd Ca H x dx fl w p d place size arg wa pa∧∀l H',H l=none→H' l=some (.lst ((signB d n).map vb))→Same H H'→Q (.ref l) H'
def spSigField (Cd Ca Ce:Addr):Sp:=fun vs H Q _=>∃(x dx fl w p:Addr) (d:Fc.Dir) (place size arg wa pa:Nat) (n:Int) (least:Nat),vs=[.ref x,.int n,.int least]∧DirX Cd Ca H x dx fl w p d place size arg wa pa∧n.natAbs < 2 ^ 64∧least≤1000∧
 ∀y H',FieldAt Ce H' y (signB d n) (digsOf d.conv least n.natAbs)→Same H H'→Q (.ref y) H'
def unsBefore (d:Fc.Dir) (n:Nat):Bytes:=if has d 35=true∧d.conv≠.octal∧n≠0 then [48,UInt8.ofNat (convByte d.conv d.i)] else []
def unsBody (d:Fc.Dir) (least n:Nat):Bytes:=let e:=digsOf d.conv least n;if d.conv=.octal∧has d 35=true∧e.head?≠some 48 then 48::e else e
def spUnsField (Cd Ca Ce:Addr):Sp:=fun vs H Q _=>∃(x dx fl w p:Addr) (d:Fc.Dir) (place size arg wa pa:Nat) (n least:Nat),vs=[.ref x,.int n,.int least]∧DirX Cd Ca H x dx fl w p d place size arg wa pa∧n < 2 ^ 64∧least≤1000∧
 ∀y H',FieldAt Ce H' y (unsBefore d n) (unsBody d least n)→Same H H'→Q (.ref y) H'
theorem cutV_bytes (bs:Bytes) (lo hi:Nat) (h:lo≤bs.length):cutV (bs.map vb) (some (lo:Int)) (some (hi:Int))=((bs.drop lo).take (hi - lo)).map vb:=by
 unfold cutV
 rw [HT.sIx_nat,HT.sIx_nat,List.length_map,Nat.min_eq_left h,←List.map_drop,←List.map_take]
 congr 1
 by_cases h2:hi≤bs.length
 ·rw [Nat.min_eq_left h2]
 ·rw [Nat.min_eq_right (by omega),List.take_of_length_le (by rw [List.length_drop];exact Nat.le_refl _),List.take_of_length_le (by rw [List.length_drop];omega)]
section
variable {P:Program} {w:World} {K:PySem.W.Frag} {mg:Str→Option Value} {base:Heap}
theorem ok_Field_init {f Ce:Addr} {fd:FuncData} (F:Fun K "__init__" "Field.__init__" s_Field_init f fd) (T:TFd K mg Ce):FnOk P w K mg base CX0 1 f fd ["self","before","body"] (spFdInit Ce):=by
 refine F.ok sc_Field_init (fun vs H Q E h=>?_) (fun cdv A outer s H vs Q E hr h=>?_)
 ·obtain ⟨x,dx,l1,l2,rfl,_⟩:=h
  rfl
 ·obtain ⟨x,dx,l1,l2,rfl,hx,q⟩:=h
  refine ⟨_,pss_cons (ps_fld (pv 0) (pv 1) rfl) (pss_one (ps_fld (pv 0) (pv 2) rfl)),?_⟩
  refine ⟨_,rfl,_,rfl,x,Ce,dx,_,rfl,hx,T.cl,T.nBe,(by show 0 < 1000;decide),?_⟩
  refine ⟨_,rfl,_,rfl,x,Ce,dx,_,rfl,upd_same,T.cl,T.nBo,(by show 1 < 1000;decide),?_⟩
  refine q dx _ upd_same fun b o hb hn=>?_
  rw [upd_ne hn,upd_ne hn]
  exact hb
theorem ok_plain_bytes {f Ce:Addr} {fd:FuncData} (F:Fun K "plain_bytes" "plain_bytes" s_plain_bytes f fd) (T:TFd K mg Ce):FnOk P w K mg base CX0 1 f fd ["row","begin","end"] (spPlain K):=by
 refine F.ok sc_plain_bytes (fun vs H Q E h=>?_) (fun cdv A outer s H vs Q E hr h=>?_)
 ·obtain ⟨rl,bg,en,bs,rfl,_⟩:=h
  rfl
 ·obtain ⟨rl,bg,en,bs,rfl,hrow,hen,hbs,q⟩:=h
  refine ⟨_,pss_cons (ps_set (i:=3) sc_plain_bytes.nd rfl (Or.inl rfl) (pe_lst pa_nil)) (pss_cons (ps_set (i:=4) sc_plain_bytes.nd rfl (Or.inl rfl) (pv 1))
   (pss_cons (ps_while PassesOwn.never (pt_cmpR op_lt (pv 4) (pv 2) (nomark _))
    (pss_cons (ps_expr (pe_bm PySem.F.plainAttrs_list PySem.F.slot_list_append PySem.F.type_list_append mt_append (pv 3) (pa_cons (pe_ix ix_list (pv 0) (pv 4) (fun _ _=>rfl)) pa_nil)))
    (pss_one (ps_aug (i:=4) sc_plain_bytes.nd rfl (Or.inl rfl) (pe_ifExp (pt_cmpR op_eq (pe_ix ix_list (pv 0) (pv 4) (fun _ _=>rfl)) (pe_gi T.PERCENT) (nomark _)) pe_int pe_int) iop_add))))
   (pss_one (ps_ret (pv 3))))),?_⟩
  refine ⟨Nat.zero_le _,fun l nl=>⟨_,rfl,?_⟩⟩
  refine ⟨fun m σ H'=>∃(k:Nat) (acc:Bytes),m=en - k∧acc++plainOf ((bs.drop k).take (en - k))=plainOf ((bs.drop bg).take (en - bg))∧acc.length≤k∧σ=[some (.ref rl),some (.int bg),some (.int en),some (.ref l),some (.int (k:Nat))]∧H' l=some (.lst (acc.map vb))∧Same H H',
   ⟨_,bg,[],rfl,rfl,Nat.zero_le _,rfl,upd_same,same_new nl⟩,?_⟩
  rintro m σ H1 ⟨k,acc,rfl,e1,hl1,rfl,h1,s1⟩
  refine ⟨_,rfl,_,rfl,_,_,rfl,rfl,_,rfl,?_⟩
  by_cases hlt:k < en
  ·refine iteB (c:=true) (decide_eq_true (by omega)) (iteT ⟨_,fun σ' H' h=>h,?_⟩)
   have hkb:k < bs.length:=by omega
   obtain ⟨c,hc⟩:∃c,bs[k]?=some c:=⟨_,List.getElem?_eq_getElem hkb⟩
   have hdk:(bs.drop k).take (en - k)=c::(bs.drop (k + 1)).take (en - (k + 1)):=by
    rw [List.drop_eq_getElem_cons hkb,show en - k=(en - (k + 1)) + 1 by omega,List.take_succ_cons]
    congr 1
    exact Option.some.inj (by rw [←hc,List.getElem?_eq_getElem hkb])
   have hix:atI (bs.map vb) ((k:Nat):Int)=some (vb c):=atI_nat (j:=k) (by rw [List.getElem?_map,hc];rfl)
   have hrow1:=SqL.same hrow s1
   have H2s:Same H (upd H1 l (.lst (acc.map vb++[vb c]))):=fun b o hb=>by rw [upd_ne (ne_of_none hb nl)];exact s1 b o hb
   refine ⟨_,rfl,.inl ⟨rfl,_,SqL.of h1⟩,_,rfl,_,rfl,rl,_,_,_,rfl,rfl,hrow1,hix,l,_,_,rfl,rfl,h1,small1000 (by rw [List.length_map];omega),?_⟩
   refine ⟨_,rfl,_,rfl,_,rfl,rl,_,_,_,rfl,rfl,SqL.same hrow H2s,hix,rfl,_,rfl,?_⟩
   have ec:decide (vb c=V.int 37)=decide (c=37):=by
    have:(vb c=V.int 37)↔c=37:=by
     constructor
     ·intro z
      have z':(c.toNat:Int)=37:=V.int.inj z
      exact UInt8.toNat_inj.mp (by show c.toNat=37;omega)
     ·rintro rfl;rfl
    simp [this]
   by_cases h37:c=37
   ·refine iteB (c:=true) (by rw [ec,decide_eq_true h37]) (iteT ⟨_,_,rfl,rfl,en - (k + 2),by omega,k + 2,acc++[c],rfl,?_,?_,rfl,?_,H2s⟩)
    ·rw [←e1,hdk,h37,plain_37,List.append_assoc]
     congr 2
     rw [←List.drop_one,List.drop_take,List.drop_drop]
     congr 1
    ·rw [List.length_append];show _ + 1≤_;omega
    ·rw [upd_same,List.map_append];rfl
   ·refine iteB (c:=false) (by rw [ec,decide_eq_false h37]) (iteF ⟨_,_,rfl,rfl,en - (k + 1),by omega,k + 1,acc++[c],rfl,?_,?_,rfl,?_,H2s⟩)
    ·rw [←e1,hdk,plain_ne _ h37,List.append_assoc];rfl
    ·rw [List.length_append];show _ + 1≤_;omega
    ·rw [upd_same,List.map_append];rfl
  ·refine iteB (c:=false) (decide_eq_false (by omega)) (iteF ⟨_,rfl,q l H1 nl ?_ s1⟩)
   rw [show en - k=0 by omega,List.take_zero,plain_nil,List.append_nil] at e1
   rw [←e1]
   exact h1
theorem ok_asked_precision {f Cd Ca Cg:Addr} {fd:FuncData} (F:Fun K "asked_precision" "asked_precision" s_asked_precision f fd) (TD:TDr K Cd) (TA:TAm K Ca) (cAsk:Cal P w K mg base CX0 "asked_amount" ["amount","arguments"] 2 (spAsked Ca Cg)):
 FnOk P w K mg base CX0 3 f fd ["directive","arguments"] (spAskedP Cd Ca Cg):=by
 refine F.ok sc_asked_precision (fun vs H Q E h=>?_) (fun cdv A outer s H vs Q E hr h=>?_)
 ·obtain ⟨x,al,dx,fl,wd,pr,u,place,size,xs,rfl,_⟩:=h
  rfl
 ·obtain ⟨x,al,dx,fl,wd,pr,u,place,size,xs,rfl,⟨hx,hfl,hw,⟨d2,hp⟩⟩,ag,hg,q⟩:=h
  refine ⟨_,pss_cons (ps_set (i:=2) sc_asked_precision.nd rfl (Or.inl rfl) (pe_cal cAsk hr pass0 (pa_cons (pe_fld (pv 0) rfl) (pa_cons (pv 1) pa_nil))))
   (pss_one (ps_ret (pe_ifExp (pw_and (pt_val (pe_fld (pe_fld (pv 0) rfl) rfl)) (pw_and1 (pt_cmpR op_ge (pv 2) pe_int (nomark _)))).pt (pv 2) pe_non))),?_⟩
  refine ⟨_,rfl,x,Cd,dx,_,_,rfl,hx,TD.cl,TD.nP,rfl,_,rfl,pr,al,u.dir.prec,u.prec.getD 0,xs,rfl,⟨d2,hp⟩,ag,hg,?_⟩
  refine ⟨_,rfl,x,Cd,dx,_,_,rfl,hx,TD.cl,TD.nP,rfl,pr,Ca,d2,_,_,rfl,hp,TA.cl,TA.nPr,rfl,_,rfl,?_⟩
  unfold precOf at q
  refine ite2 (fun h1=>?_) fun h1=>?_
  ·refine ⟨_,rfl,_,_,rfl,rfl,_,rfl,?_⟩
   refine ite2 (fun h2=>?_) fun h2=>?_
   ·have h2:=of_decide_eq_true h2
    rw [if_pos ⟨h1,h2⟩] at q
    refine ⟨_,rfl,?_⟩
    have:V.int (amtOf u.dir.prec (u.prec.getD 0) xs)=optV (some (amtOf u.dir.prec (u.prec.getD 0) xs).toNat):=by
     show _=V.int _
     rw [Int.toNat_of_nonneg h2]
    rw [this]
    exact q
   ·rw [if_neg fun z=>h2 (decide_eq_true z.2)] at q
    exact q
  ·rw [if_neg fun z=>h1 z.1] at q
   exact iteF q
theorem ok_shown_text {f Cg Ce:Addr} {fd:FuncData} (F:Fun K "shown_text" "shown_text" s_shown_text f fd) (T:TAg K mg Cg) (TE:TFd K mg Ce):FnOk P w K mg base CX0 1 f fd ["argument","precision","pool"] (spShown K Cg):=by
 refine F.ok sc_shown_text (fun vs H Q E h=>?_) (fun cdv A outer s H vs Q E hr h=>?_)
 ·obtain ⟨x,pl,v,po,pool,rfl,_⟩:=h
  rfl
 ·obtain ⟨x,pl,v,po,pool,rfl,⟨dx,hx⟩,hpl,hb,q⟩:=h
  refine ⟨_,pss_cons (ps_set (i:=3) sc_shown_text.nd rfl (Or.inl rfl) (pe_ifExp (pt_cmpR op_isN (pv 1) pe_non (nomark _)) (pe_fld (pv 0) rfl) (pe_callB (call_min2 rfl) (by rfl) TE.min boot_min (pa_cons (pe_fld (pv 0) rfl) (pa_cons (pv 1) pa_nil)))).mono)
   (pss_one (ps_ret (pe_slice sl_list (pv 2) (po_some (pe_fld (pv 0) rfl)) (po_some (pe_op op_add (pe_fld (pv 0) rfl) (pv 3)))))),?_⟩
  let sz:Nat:=match po with
   | some q=>min v.len q
   | none=>v.len
  have esz:(pool.drop v.value).take sz=cutT v po pool:=by
   unfold cutT textOf
   cases po with
   | none=>rfl
   | some n0=>
    show (pool.drop v.value).take (min v.len n0)=((pool.drop v.value).take v.len).take n0
    rw [List.take_take,Nat.min_comm]
  refine ⟨fun z H1=>z=.int (sz:Nat)∧H=H1,?_,?_⟩
  ·refine ⟨_,rfl,rfl,_,rfl,?_⟩
   cases po with
   | none=>exact iteT ⟨_,rfl,x,Cg,dx,_,_,rfl,hx,T.cl,T.nSi,rfl,rfl,rfl⟩
   | some n=>
    refine iteF ⟨_,rfl,x,Cg,dx,_,_,rfl,hx,T.cl,T.nSi,rfl,_,rfl,_,_,rfl,?_,rfl⟩
    show V.int (if ((n:Nat):Int) < ((v.len:Nat):Int) then ((n:Nat):Int) else ((v.len:Nat):Int))=V.int ((min v.len n:Nat):Int)
    congr 1
    split<;>omega
  ·rintro z H1 ⟨rfl,rfl⟩
   refine ⟨_,rfl,_,rfl,x,Cg,dx,_,_,rfl,hx,T.cl,T.nVa,rfl,_,rfl,_,rfl,x,Cg,dx,_,_,rfl,hx,T.cl,T.nVa,rfl,_,rfl,_,_,rfl,rfl,_,rfl,pl,_,rfl,hpl,fun l nl=>?_⟩
   refine q l _ nl ?_ (same_new nl)
   rw [upd_same]
   have e1:((v.value:Nat):Int) + ((sz:Nat):Int)=((v.value + sz:Nat):Int):=by omega
   have:=cutV_bytes pool v.value (v.value + sz) (by omega)
   rw [←e1,Nat.add_sub_cancel_left,esz] at this
   rw [this]
theorem ok_sign_of {f Cd Ca:Addr} {fd:FuncData} (F:Fun K "sign_of" "sign_of" s_sign_of f fd) (TD:TDr K Cd) (R:TRu K mg):FnOk P w K mg base CX0 1 f fd ["directive","number"] (spSignOf Cd Ca):=by
 refine F.ok sc_sign_of (fun vs H Q E h=>?_) (fun cdv A outer s H vs Q E hr h=>?_)
 ·obtain ⟨x,dx,fl,wd,pr,d,place,size,arg,wa,pa,n,rfl,_⟩:=h
  rfl
 ·obtain ⟨x,dx,fl,wd,pr,d,place,size,arg,wa,pa,n,rfl,⟨hx,hf,_,_⟩,q⟩:=h
  refine ⟨_,pss_cons (ps_if (pt_cmpR op_lt (pv 1) pe_int (nomark _)) (pss_one (ps_ret (pe_lst (pa_cons (pe_gi R.MINUS) pa_nil)))) pss_nil)
   (pss_one (ps_ret (pe_lc rfl sc_sign_of.nd (pi_tup (pe_tup (pa_cons (pe_gi R.PLUS) (pa_cons (pe_gi R.BLANK) pa_nil)))) (own:=[("flag",2)]) (tt:=tTest (tOp (rIn K false) (tVar 2) (tFld K (tVar 0) "flags"))) (blkOk_by rfl)
    (fun _ _ _ _ _=>pg_name (i:=2) sc_sign_of.nd rfl (Or.inl rfl)) (fun _ _ _ _ _=>pts_one (pt_cmpR op_in_seq (pv 2) (pe_fld (pv 0) rfl) (by with_unfolding_all rfl))) (fun _ _ _ _ _=>pv 2)))),?_⟩
  refine ⟨_,rfl,_,_,rfl,rfl,_,rfl,?_⟩
  unfold signB at q
  by_cases hn:n < 0
  ·rw [if_pos hn] at q
   exact iteB (c:=true) (decide_eq_true hn) (iteT ⟨(by show 1≤sizeLine;decide),fun l nl=>q l _ nl upd_same (same_new nl)⟩)
  ·rw [if_neg hn] at q
   refine iteB (c:=false) (decide_eq_false hn) (iteF ⟨(by show 2≤sizeLine;decide),fun t nt=>⟨t,rfl,⟨_,SqT.of upd_same⟩,fun D hD=>?_⟩⟩)
   have tD:t≠D:=ne_of_none upd_same hD
   have D0:H D=none:=by rw [upd_ne tD.symm] at hD;exact hD
   let acc:Nat→Bytes:=fun i=>(([(has d 43,43),(has d 32,32)].take i).filter fun y=>y.1).map fun y=>y.2
   refine lc_tup (xs:=[.int 43,.int 32]) (fun i H'=>H' t=some (.tup [.int 43,.int 32])∧H' D=some (.lst ((acc i).map vb))∧Same H H') ⟨?_,?_,fun b o hb=>?_⟩ (fun i H' _ h=>SqT.of h.1) (fun i y H' hi h=>?_) fun H' h=>?_
   ·rw [upd_ne tD,upd_same]
   ·rw [upd_same];rfl
   ·rw [upd_ne (ne_of_none hb D0),upd_ne (ne_of_none hb nt)];exact hb
   ·obtain ⟨h1,h2,h3⟩:=h
    have fin:∀{c:UInt8} {b:Bool},acc (i + 1)=acc i++(if b=true then [c] else [])→(acc i).length≤2→if b=true then ∃ac,H' D=some (.lst ac)∧ac.length < sizeLine∧(upd H' D (.lst (ac++[vb c])) t=some (.tup [.int 43,.int 32])∧upd H' D (.lst (ac++[vb c])) D=some (.lst ((acc (i + 1)).map vb))∧Same H (upd H' D (.lst (ac++[vb c])))) else (H' t=some (.tup [.int 43,.int 32])∧H' D=some (.lst ((acc (i + 1)).map vb))∧Same H H'):=fun {c b} e le=>by
     cases b with
     | true=>exact ⟨(acc i).map vb,h2,small1000 (by rw [List.length_map];omega),by rw [upd_ne tD];exact h1,by rw [upd_same,e,List.map_append];rfl,fun b o hb=>by rw [upd_ne (ne_of_none hb D0)];exact h3 b o hb⟩
     | false=>exact ⟨h1,by rw [e];show _=some (HO.lst ((acc i++[]).map vb));rw [List.append_nil];exact h2,h3⟩
    match i,hi with
    | 0,hi=>
     cases hi
     refine ⟨rfl,_,rfl,_,rfl,x,Cd,dx,_,_,rfl,h3 _ _ hx,TD.cl,TD.nFl,rfl,fl,_,rfl,.inl (SqL.of (h3 _ _ hf)),rfl,flat_map _,_,rfl,iteB (inV_has d 43 43 rfl) ?_⟩
     have:=fin (c:=43) (b:=has d 43) (by cases hb:has d 43<;>simp [acc,hb]) (by simp [acc])
     refine ite2 (fun hb=>?_) fun hb=>?_
     ·rw [if_pos hb] at this;exact ⟨_,rfl,this⟩
     ·rw [if_neg hb] at this;exact this
    | 1,hi=>
     cases hi
     refine ⟨rfl,_,rfl,_,rfl,x,Cd,dx,_,_,rfl,h3 _ _ hx,TD.cl,TD.nFl,rfl,fl,_,rfl,.inl (SqL.of (h3 _ _ hf)),rfl,flat_map _,_,rfl,iteB (inV_has d 32 32 rfl) ?_⟩
     have:=fin (c:=32) (b:=has d 32) (by cases hb:has d 43<;>cases hb2:has d 32<;>simp [acc,hb,hb2]) (by cases hb:has d 43<;>simp [acc,hb])
     refine ite2 (fun hb=>?_) fun hb=>?_
     ·rw [if_pos hb] at this;exact ⟨_,rfl,this⟩
     ·rw [if_neg hb] at this;exact this
   ·refine q D H' D0 ?_ h.2.2
    rw [h.2.1]
    congr 3
    cases hb:has d 43<;>cases hb2:has d 32<;>simp [acc,hb,hb2]
end
end Fm
namespace Fm
open PySem PySem.Spec PyProof.Rows L2
open Fc (Bytes Size Len Conv Use Val signedOf has figures lead textOf)
def partsOf (d:Fc.Dir) (po:Option Nat) (v:Val) (pool:Bytes):Bytes×Bytes:=if d.conv=.char then ([],[UInt8.ofNat v.value]) else if d.conv=.text then ([],cutT v po pool) else
 if isSig d.conv=true then (signB d (signedOf (bitsL d.len) v.value),digsOf d.conv (po.getD 1) (signedOf (bitsL d.len) v.value).natAbs) else (unsBefore d (v.value % 2 ^ bitsL d.len),unsBody d (po.getD 1) (v.value % 2 ^ bitsL d.len))
def miss (w:Int) (bf bd:Bytes):Nat:=w.natAbs - bf.length - bd.length
def wide (d:Fc.Dir) (w:Int) (bf bd:Bytes):Bytes:=if w < 0∨has d 45=true then bf++bd++List.replicate (miss w bf bd) 32 else if has d 48=true then bf++List.replicate (miss w bf bd) 48++bd else List.replicate (miss w bf bd) 32++bf++bd
def spWide (Cd Ca Ce:Addr):Sp:=fun vs H Q _=>∃(y x dx fl w p:Addr) (d:Fc.Dir) (place size arg wa pa:Nat) (bf bd:Bytes) (wn:Int),vs=[.ref y,.ref x,.int wn]∧FieldAt Ce H y bf bd∧DirX Cd Ca H x dx fl w p d place size arg wa pa∧bf.length≤1000∧bd.length≤2000∧wn.natAbs≤1000∧
 ∀l H',H l=none→H' l=some (.lst ((wide d wn bf bd).map vb))→Same H H'→Q (.ref l) H'
def spFieldOf (K:PySem.W.Frag) (Cd Ca Cg Ce:Addr):Sp:=fun vs H Q _=>∃(x al pl dx fl w p:Addr) (u:Use) (place size:Nat) (xs:List Val) (v:Val) (pool:Bytes),vs=[.ref x,.ref al,.ref pl]∧DirX Cd Ca H x dx fl w p u.dir place size u.arg (u.width.getD 0) (u.prec.getD 0)∧ArgsAt Cg H al xs∧SqL K H pl (pool.map vb)∧
 (szStar u.dir.prec=true→1≤u.prec.getD 0∧u.prec.getD 0≤xs.length)∧1≤u.arg∧xs[u.arg - 1]?=some v∧(u.dir.conv=.text→v.value + v.len≤pool.length)∧(precOf u.dir.prec (u.prec.getD 0) xs).getD 1≤1000∧
 ∀y H',FieldAt Ce H' y (partsOf u.dir (precOf u.dir.prec (u.prec.getD 0) xs) v pool).1 (partsOf u.dir (precOf u.dir.prec (u.prec.getD 0) xs) v pool).2→Same H H'→Q (.ref y) H'
theorem big1 {n:Nat} (h:n≤1000000):n≤sizeLine:=Nat.le_trans h (by decide)
theorem flat_rep (k:Nat) (c:UInt8):(List.replicate k [vb c]).flatten=(List.replicate k c).map vb:=by
 rw [List.map_replicate]
 induction k with
 | zero=>rfl
 | succ k ih=>rw [List.replicate_succ,List.replicate_succ,List.flatten_cons,ih];rfl
theorem signed_small (L:Len) (v:Nat):(signedOf (bitsL L) v).natAbs < 2 ^ 64:=by
 unfold signedOf
 have h1:v % 2 ^ bitsL L < 2 ^ bitsL L:=Nat.mod_lt _ (Nat.pow_pos (by decide))
 have h2:2 ^ bitsL L≤2 ^ 64:=by cases L<;>decide +kernel
 have h3:0 < 2 ^ (bitsL L - 1):=Nat.pow_pos (by decide)
 generalize 2 ^ bitsL L=B at h1 h2
 generalize 2 ^ (bitsL L - 1)=C at h3
 generalize v % B=r at h1
 split<;>omega
theorem uns_small (L:Len) (v:Nat):v % 2 ^ bitsL L < 2 ^ 64:=by
 have h1:v % 2 ^ bitsL L < 2 ^ bitsL L:=Nat.mod_lt _ (Nat.pow_pos (by decide))
 have h2:2 ^ bitsL L≤2 ^ 64:=by cases L<;>decide +kernel
 omega
section
variable {P:Program} {w:World} {K:PySem.W.Frag} {mg:Str→Option Value} {base:Heap}
theorem ok_signed_field {f Cd Ca Ce:Addr} {fd:FuncData} (F:Fun K "signed_field" "signed_field" s_signed_field f fd) (TD:TDr K Cd) (T:TFd K mg Ce) (cFd:CalC P w K mg base Ce "Field" ["self","before","body"] 1 (spFdInit Ce)) (cSn:Cal P w K mg base CX0 "sign_of" ["directive","number"] 1 (spSignOf Cd Ca))
 (cDg:Cal P w K mg base CX0 "digits_of" ["magnitude","conversion","least"] 2 spDigits):FnOk P w K mg base CX0 3 f fd ["directive","number","least"] (spSigField Cd Ca Ce):=by
 refine F.ok sc_signed_field (fun vs H Q E h=>?_) (fun cdv A outer s H vs Q E hr h=>?_)
 ·obtain ⟨x,dx,fl,wd,pr,d,place,size,arg,wa,pa,n,least,rfl,_⟩:=h
  rfl
 ·obtain ⟨x,dx,fl,wd,pr,d,place,size,arg,wa,pa,n,least,rfl,D0,hn,hle,q⟩:=h
  have hr1:Room 1 _:=hr.mono (by decide)
  refine ⟨_,pss_one (ps_ret (pe_calc cFd hr (pa_cons (pe_cal cSn hr1 pass0 (pa_cons (pv 0) (pa_cons (pv 1) pa_nil))) (pa_cons (pe_cal cDg hr pass0 (pa_cons (pe_callB call_abs (by rfl) T.abs boot_abs (pa_cons (pv 1) pa_nil)) (pa_cons (pe_fld (pv 0) rfl) (pa_cons (pv 2) pa_nil)))) pa_nil)))),?_⟩
  refine ⟨_,rfl,_,rfl,x,dx,fl,wd,pr,d,place,size,arg,wa,pa,n,rfl,D0,fun l1 H1 n1 hl1 s1=>?_⟩
  have D1:=D0.same s1
  have ea:(if n < 0 then -n else n)=((n.natAbs:Nat):Int):=by split<;>omega
  refine ⟨_,rfl,n,rfl,_,rfl,x,Cd,dx,_,_,rfl,D1.1,TD.cl,TD.nCv,rfl,_,rfl,n.natAbs,d.conv,d.i,least,(by rw [ea];rfl),hn,hle,fun l2 H2 n2 hl2 s2=>?_⟩
  intro y dxx ny nd nyd
  refine ⟨y,dxx,l1,l2,rfl,upd_same,fun dd H3 hy3 b3=>⟨rfl,?_⟩⟩
  have s3:Same H2 H3:=amNew ny nd b3
  exact q y H3 ⟨dd,l1,l2,hy3,s3 _ _ (s2 _ _ hl1),s3 _ _ hl2⟩ (Same.trans s1 (Same.trans s2 s3))
theorem ok_unsigned_field {f Cd Ca Ce:Addr} {fd:FuncData} (F:Fun K "unsigned_field" "unsigned_field" s_unsigned_field f fd) (TD:TDr K Cd) (T:TFd K mg Ce) (R:TRu K mg) (cFd:CalC P w K mg base Ce "Field" ["self","before","body"] 1 (spFdInit Ce))
 (cDg:Cal P w K mg base CX0 "digits_of" ["magnitude","conversion","least"] 2 spDigits):FnOk P w K mg base CX0 3 f fd ["directive","number","least"] (spUnsField Cd Ca Ce):=by
 refine F.ok sc_unsigned_field (fun vs H Q E h=>?_) (fun cdv A outer s H vs Q E hr h=>?_)
 ·obtain ⟨x,dx,fl,wd,pr,d,place,size,arg,wa,pa,n,least,rfl,_⟩:=h
  rfl
 ·obtain ⟨x,dx,fl,wd,pr,d,place,size,arg,wa,pa,n,least,rfl,D0,hn,hle,q⟩:=h
  refine ⟨_,pss_cons (ps_set (i:=3) sc_unsigned_field.nd rfl (Or.inl rfl) (pe_cal cDg hr pass0 (pa_cons (pv 1) (pa_cons (pe_fld (pv 0) rfl) (pa_cons (pv 2) pa_nil)))))
   (pss_cons (ps_if (pt_cmpR op_notIn_seq (pe_gi R.HASH) (pe_fld (pv 0) rfl) (by with_unfolding_all rfl)) (pss_one (ps_ret (pe_calc cFd hr (pa_cons (pe_lst pa_nil) (pa_cons (pv 3) pa_nil))))) pss_nil)
   (pss_cons (ps_if (pt_cmpR op_eq (pe_fld (pv 0) rfl) (pe_gi T.LO) (nomark _)) (pss_one (ps_ret (pe_calc cFd hr (pa_cons (pe_lst pa_nil) (pa_cons (pe_ifExp (pt_cmpR (op_eq1 hr.units) (pe_slice sl_list (pv 3) po_none (po_some pe_int)) (pe_lst (pa_cons (pe_gi R.ZERO) pa_nil)) (nomark _)) (pv 3) (pe_op op_cat (pe_lst (pa_cons (pe_gi R.ZERO) pa_nil)) (pv 3))) pa_nil))))) pss_nil)
   (pss_one (ps_ret (pe_calc cFd hr (pa_cons (pe_ifExp (pt_cmpR op_eq (pv 1) pe_int (nomark _)) (pe_lst pa_nil) (pe_lst (pa_cons (pe_gi R.ZERO) (pa_cons (pe_fld (pv 0) rfl) pa_nil)))) (pa_cons (pv 3) pa_nil))))))),?_⟩
  refine ⟨_,rfl,_,rfl,x,Cd,dx,_,_,rfl,D0.1,TD.cl,TD.nCv,rfl,_,rfl,n,d.conv,d.i,least,rfl,hn,hle,fun l H1 nl hl s1=>?_⟩
  have D1:=D0.same s1
  have dl:(digsOf d.conv least n).length≤2000:=by
   unfold digsOf
   have:=dg_len d.conv 64 n hn
   rw [List.length_append,List.length_replicate]
   omega
  have make:∀{H2:Hp} {l1 l2:Addr} {bf bd:Bytes},H2 l1=some (.lst (bf.map vb))→H2 l2=some (.lst (bd.map vb))→Same H H2→unsBefore d n=bf→unsBody d least n=bd→
   ∀y dxx,H2 y=none→H2 dxx=none→dxx≠y→spFdInit Ce [.ref y,.ref l1,.ref l2] (upd (upd H2 dxx (.own y)) y (.ins Ce dxx [])) (fun v H3=>v=.non∧Q (.ref y) H3) E0:=fun {H2 l1 l2 bf bd} g1 g2 g3 e1 e2 y dxx ny nd nyd=>by
   refine ⟨y,dxx,l1,l2,rfl,upd_same,fun dd H3 hy3 b3=>⟨rfl,?_⟩⟩
   have s3:Same H2 H3:=amNew ny nd b3
   refine q y H3 ?_ (Same.trans g3 s3)
   rw [e1,e2]
   exact ⟨dd,l1,l2,hy3,s3 _ _ g1,s3 _ _ g2⟩
  refine ⟨_,rfl,x,Cd,dx,_,_,rfl,D1.1,TD.cl,TD.nFl,rfl,fl,_,rfl,.inl (SqL.of D1.2.1),rfl,flat_map _,_,rfl,?_⟩
  refine iteB (c:=!has d 35) (by show (!inV (.int 35) (d.flags.map vb))=_;rw [inV_has d 35 35 rfl]) ?_
  refine ite2 (fun h35=>?_) fun h35=>?_
  ·have h35:has d 35=false:=by simpa using h35
   refine ⟨Nat.zero_le _,fun l1 n1=>⟨_,rfl,make (bf:=[]) upd_same (by rw [upd_ne (ne_of_none hl n1)];exact hl) (Same.trans s1 (same_new n1)) ?_ ?_⟩⟩
   ·unfold unsBefore;rw [if_neg (by rw [h35];simp)]
   ·unfold unsBody;dsimp only;rw [if_neg (by rw [h35];simp)]
  ·have h35:has d 35=true:=by simpa using h35
   refine ⟨_,rfl,x,Cd,dx,_,_,rfl,D1.1,TD.cl,TD.nCv,rfl,rfl,_,rfl,?_⟩
   have eo:decide (V.int (convByte d.conv d.i)=V.int 111)=decide (d.conv=.octal):=by cases d.conv<;>cases d.i<;>decide +kernel
   refine iteB eo ?_
   refine ite2 (fun ho=>?_) fun ho=>?_
   ·have ho:=of_decide_eq_true ho
    refine ⟨Nat.zero_le _,fun l1 n1=>?_⟩
    have s2:Same H1 (upd H1 l1 (.lst [])):=same_new n1
    have ub:unsBefore d n=[]:=by unfold unsBefore;rw [if_neg (by rw [ho];simp)]
    have cut:cutV ((digsOf d.conv least n).map vb) none (some 1)=(((digsOf d.conv least n).head?.map fun c=>((c.toNat:Nat):Int)).toList).map V.int:=by
     unfold cutV
     have:((1:Int))=((1:Nat):Int):=rfl
     rw [this,HT.sIx_nat,List.length_map]
     show ((List.map vb _).drop 0).take (min 1 _ - 0)=_
     cases hd:digsOf d.conv least n with
     | nil=>rfl
     | cons c r=>rw [List.length_cons,Nat.min_eq_left (by omega)];rfl
    refine ⟨_,rfl,_,rfl,l,_,rfl,SqL.of (s2 _ _ hl),fun sl nsl=>⟨(by show 1≤sizeLine;decide),fun zl nzl=>?_⟩⟩
    have s3:=Same.trans s2 (same_new (o:=.lst (cutV ((digsOf d.conv least n).map vb) none (some 1))) nsl)
    have s4:=Same.trans s3 (same_new (o:=.lst [.int 48]) nzl)
    have l14:upd (upd (upd H1 l1 (.lst [])) sl (.lst (cutV ((digsOf d.conv least n).map vb) none (some 1)))) zl (.lst [.int 48]) l1=some (.lst (([]:Bytes).map vb)):=by
     have a1:l1≠sl:=ne_of_none upd_same nsl
     have a2:l1≠zl:=ne_of_none (by rw [upd_ne a1,upd_same]) nzl
     rw [upd_ne a2,upd_ne a1,upd_same];rfl
    refine ⟨sl,zl,_,48,rfl,rfl,SqL.of (by rw [upd_ne (ne_of_none upd_same nzl),upd_same,cut]),SqL.of upd_same,_,rfl,?_⟩
    have eh:decide (((digsOf d.conv least n).head?.map fun c=>((c.toNat:Nat):Int))=some 48)=decide ((digsOf d.conv least n).head?=some 48):=by
     cases hd:(digsOf d.conv least n).head? with
     | none=>rfl
     | some y=>
      have:((y.toNat:Nat):Int)=48↔y=48:=by
       constructor
       ·intro z;exact UInt8.toNat_inj.mp (by show y.toNat=48;omega)
       ·rintro rfl;rfl
      simp [this]
    refine iteB eh ?_
    refine ite2 (fun hh=>?_) fun hh=>?_
    ·have hh:=of_decide_eq_true hh
     refine ⟨_,rfl,make (bf:=[]) l14 (s4 _ _ hl) (Same.trans s1 s4) ub ?_⟩
     unfold unsBody;dsimp only;rw [if_neg fun z=>z.2.2 hh]
    ·have hh:¬(digsOf d.conv least n).head?=some 48:=fun z=>hh (decide_eq_true z)
     refine ⟨(by show 1≤sizeLine;decide),fun z2 nz2=>⟨_,rfl,z2,l,_,_,rfl,rfl,upd_same,same_new nz2 _ _ (s4 _ _ hl),big1 (by rw [List.length_map];show 1 + _≤_;omega),fun cl ncl=>?_⟩⟩
     refine make (bf:=[]) (bd:=48::digsOf d.conv least n) ?_ upd_same (Same.trans s1 (Same.trans s4 (Same.trans (same_new nz2) (same_new ncl)))) ub ?_
     ·exact same_new ncl _ _ (same_new nz2 _ _ l14)
     ·unfold unsBody;dsimp only;rw [if_pos ⟨ho,h35,hh⟩]
   ·have ho:¬d.conv=.octal:=fun z=>ho (decide_eq_true z)
    have ub:unsBody d least n=digsOf d.conv least n:=by unfold unsBody;dsimp only;rw [if_neg fun z=>ho z.1]
    refine ⟨_,rfl,rfl,_,rfl,?_⟩
    by_cases h0:n=0
    ·refine iteB (c:=true) (decide_eq_true (by rw [h0];rfl)) (iteT ⟨Nat.zero_le _,fun l1 n1=>⟨_,rfl,make (bf:=[]) upd_same (same_new n1 _ _ hl) (Same.trans s1 (same_new n1)) ?_ ub⟩⟩)
     unfold unsBefore;rw [if_neg fun z=>z.2.2 h0]
    ·refine iteB (c:=false) (decide_eq_false (by intro z;have:=V.int.inj z;omega)) (iteF ⟨_,rfl,x,Cd,dx,_,_,rfl,D1.1,TD.cl,TD.nCv,rfl,(by show 2≤sizeLine;decide),fun l1 n1=>⟨_,rfl,make (bf:=[48,UInt8.ofNat (convByte d.conv d.i)]) ?_ (same_new n1 _ _ hl) (Same.trans s1 (same_new n1)) ?_ ub⟩⟩)
     ·rw [upd_same]
      have:vb (UInt8.ofNat (convByte d.conv d.i))=.int (convByte d.conv d.i:Nat):=by cases d.conv<;>cases d.i<;>rfl
      show _=some (HO.lst [vb 48,vb (UInt8.ofNat (convByte d.conv d.i))])
      rw [this]
      rfl
     ·unfold unsBefore;rw [if_pos ⟨h35,ho,h0⟩]
theorem ok_widened {f Cd Ca Ce:Addr} {fd:FuncData} (F:Fun K "widened" "widened" s_widened f fd) (TD:TDr K Cd) (T:TFd K mg Ce) (R:TRu K mg):FnOk P w K mg base CX0 1 f fd ["field","directive","width"] (spWide Cd Ca Ce):=by
 refine F.ok sc_widened (fun vs H Q E h=>?_) (fun cdv A outer s H vs Q E hr h=>?_)
 ·obtain ⟨y,x,dx,fl,wd,pr,d,place,size,arg,wa,pa,bf,bd,wn,rfl,_⟩:=h
  rfl
 ·obtain ⟨y,x,dx,fl,wd,pr,d,place,size,arg,wa,pa,bf,bd,wn,rfl,⟨dy,l1,l2,hy,h1,h2⟩,⟨hx,hf,_,_⟩,hb1,hb2,hw,q⟩:=h
  refine ⟨_,pss_cons (ps_set (i:=3) sc_widened.nd rfl (Or.inl rfl) (pe_callB (call_max2 rfl) (by rfl) T.max boot_max (pa_cons (pe_op op_sub (pe_op op_sub (pe_callB call_abs (by rfl) T.abs boot_abs (pa_cons (pv 2) pa_nil)) (pe_callB call_len_seq (by rfl) T.len PySem.boot_len (pa_cons (pe_fld (pv 0) rfl) pa_nil))) (pe_callB call_len_seq (by rfl) T.len PySem.boot_len (pa_cons (pe_fld (pv 0) rfl) pa_nil))) (pa_cons pe_int pa_nil))))
   (pss_cons (ps_if (pw_or (pt_cmpR op_lt (pv 2) pe_int (nomark _)) (pw_or1 (pt_cmpR op_in_seq (pe_gi R.MINUS) (pe_fld (pv 1) rfl) (by with_unfolding_all rfl)))).pt (pss_one (ps_ret (pe_op op_cat (pe_op op_cat (pe_fld (pv 0) rfl) (pe_fld (pv 0) rfl)) (pe_op op_rep (pe_lst (pa_cons (pe_gi R.BLANK) pa_nil)) (pv 3))))) pss_nil)
   (pss_cons (ps_if (pt_cmpR op_in_seq (pe_gi R.ZERO) (pe_fld (pv 1) rfl) (by with_unfolding_all rfl)) (pss_one (ps_ret (pe_op op_cat (pe_op op_cat (pe_fld (pv 0) rfl) (pe_op op_rep (pe_lst (pa_cons (pe_gi R.ZERO) pa_nil)) (pv 3))) (pe_fld (pv 0) rfl)))) pss_nil)
   (pss_one (ps_ret (pe_op op_cat (pe_op op_cat (pe_op op_rep (pe_lst (pa_cons (pe_gi R.BLANK) pa_nil)) (pv 3)) (pe_fld (pv 0) rfl)) (pe_fld (pv 0) rfl)))))),?_⟩
  obtain ⟨m,hm⟩:∃m,miss wn bf bd=m:=⟨_,rfl⟩
  have hm1:m≤1000:=by rw [←hm];unfold miss;omega
  have em:(if (0:Int) > (if wn < 0 then -wn else wn) - ((bf.map vb).length:Nat) - ((bd.map vb).length:Nat) then 0 else (if wn < 0 then -wn else wn) - ((bf.map vb).length:Nat) - ((bd.map vb).length:Nat))=((m:Nat):Int):=by
   rw [List.length_map,List.length_map,←hm]
   unfold miss
   split<;>split<;>omega
  refine ⟨_,rfl,_,rfl,_,rfl,y,Ce,dy,_,_,rfl,hy,T.cl,T.nBe,rfl,l1,_,rfl,.inl (SqL.of h1),_,_,rfl,rfl,_,rfl,y,Ce,dy,_,_,rfl,hy,T.cl,T.nBo,rfl,l2,_,rfl,.inl (SqL.of h2),_,_,rfl,rfl,_,_,rfl,?_⟩
  show tSeq _ _ _ [some (V.ref y),some (V.ref x),some (V.int wn),some (V.int (if (0:Int) > (if wn < 0 then -wn else wn) - ((bf.map vb).length:Nat) - ((bd.map vb).length:Nat) then 0 else (if wn < 0 then -wn else wn) - ((bf.map vb).length:Nat) - ((bd.map vb).length:Nat)))] H
  rw [em]
  have rep:∀{H0:Hp} {c:UInt8} {Q0:VK},Same H H0→(∀rl H1,Same H0 H1→H1 rl=some (.lst ((List.replicate m c).map vb))→H0 rl=none→Q0 (.ref rl) H1)→
   tOp rRep (tLst (tCons (tC (vb c)) tNil)) (tVar 3) [some (V.ref y),some (V.ref x),some (V.int wn),some (V.int (m:Nat))] H0 Q0:=fun {H0 c Q0} g1 g2=>by
   refine ⟨(by show 1≤sizeLine;decide),fun p np=>⟨_,rfl,p,_,_,rfl,rfl,upd_same,by omega,by omega,?_,fun p2 np2=>?_⟩⟩
   ·show 1 * ((m:Nat):Int).toNat≤sizeLine
    exact big1 (by omega)
   ·have:((m:Nat):Int).toNat=m:=rfl
    refine g2 p2 _ (Same.trans (same_new np) (same_new np2)) ?_ (Same.free' (same_new np) np2)
    rw [upd_same]
    show some (HO.lst (List.replicate m [vb c]).flatten)=_
    rw [flat_rep]
  have ln:(List.replicate m (32:UInt8)).length=m:=List.length_replicate
  have lz:(List.replicate m (48:UInt8)).length=m:=List.length_replicate
  refine ⟨_,rfl,_,_,rfl,rfl,_,rfl,?_⟩
  unfold wide at q
  rw [hm] at q
  have left:(wn < 0∨has d 45=true)→tRet (tOp rCat (tOp rCat (tFld K (tVar 0) "before") (tFld K (tVar 0) "body")) (tOp rRep (tLst (tCons (tC (.int 32)) tNil)) (tVar 3))) ⟨fun _ _=>False,Q,fun _ _=>False,fun _ _=>False⟩ [some (V.ref y),some (V.ref x),some (V.int wn),some (V.int (m:Nat))] H:=fun hl=>by
   rw [if_pos hl] at q
   refine ⟨_,rfl,y,Ce,dy,_,_,rfl,hy,T.cl,T.nBe,rfl,_,rfl,y,Ce,dy,_,_,rfl,hy,T.cl,T.nBo,rfl,l1,l2,_,_,rfl,rfl,h1,h2,big1 (by rw [List.length_map,List.length_map];omega),fun p np=>?_⟩
   refine rep (c:=32) (same_new np) fun rl H1 s1 hrl nrl=>⟨p,rl,_,_,rfl,rfl,s1 _ _ upd_same,hrl,big1 (by rw [List.length_append,List.length_map,List.length_map,List.length_map,ln];omega),fun p2 np2=>?_⟩
   refine q p2 _ (Same.free' (same_new np) (Same.free' s1 np2)) ?_ (Same.trans (same_new np) (Same.trans s1 (same_new np2)))
   rw [upd_same,List.map_append,List.map_append]
  by_cases hw0:wn < 0
  ·exact iteB (c:=true) (decide_eq_true hw0) (iteT (iteT (left (.inl hw0))))
  ·refine iteB (c:=false) (decide_eq_false hw0) (iteF ⟨_,rfl,x,Cd,dx,_,_,rfl,hx,TD.cl,TD.nFl,rfl,fl,_,rfl,.inl (SqL.of hf),rfl,flat_map _,_,rfl,iteB (inV_has d 45 45 rfl) ?_⟩)
   refine ite2 (fun h45=>left (.inr h45)) fun h45=>?_
   rw [if_neg (by rintro (z | z);exact hw0 z;exact h45 z)] at q
   refine ⟨_,rfl,x,Cd,dx,_,_,rfl,hx,TD.cl,TD.nFl,rfl,fl,_,rfl,.inl (SqL.of hf),rfl,flat_map _,_,rfl,iteB (inV_has d 48 48 rfl) ?_⟩
   refine ite2 (fun h48=>?_) fun h48=>?_
   ·rw [if_pos h48] at q
    refine ⟨_,rfl,y,Ce,dy,_,_,rfl,hy,T.cl,T.nBe,rfl,?_⟩
    refine rep (c:=48) (fun _ _ h=>h) fun rl H1 s1 hrl nrl=>⟨l1,rl,_,_,rfl,rfl,s1 _ _ h1,hrl,big1 (by rw [List.length_map,List.length_map,lz];omega),fun p np=>?_⟩
    have s2:=Same.trans s1 (same_new (o:=.lst (bf.map vb++(List.replicate m 48).map vb)) np)
    refine ⟨_,rfl,y,Ce,dy,_,_,rfl,s2 _ _ hy,T.cl,T.nBo,rfl,p,l2,_,_,rfl,rfl,upd_same,s2 _ _ h2,big1 (by rw [List.length_append,List.length_map,List.length_map,List.length_map,lz];omega),fun p2 np2=>?_⟩
    refine q p2 _ (Same.free' s2 np2) ?_ (Same.trans s2 (same_new np2))
    rw [upd_same,List.map_append,List.map_append]
   ·rw [if_neg h48] at q
    refine rep (c:=32) (fun _ _ h=>h) fun rl H1 s1 hrl nrl=>?_
    refine ⟨_,rfl,y,Ce,dy,_,_,rfl,s1 _ _ hy,T.cl,T.nBe,rfl,rl,l1,_,_,rfl,rfl,hrl,s1 _ _ h1,big1 (by rw [List.length_map,List.length_map,ln];omega),fun p np=>?_⟩
    have s2:=Same.trans s1 (same_new (o:=.lst ((List.replicate m 32).map vb++bf.map vb)) np)
    refine ⟨_,rfl,y,Ce,dy,_,_,rfl,s2 _ _ hy,T.cl,T.nBo,rfl,p,l2,_,_,rfl,rfl,upd_same,s2 _ _ h2,big1 (by rw [List.length_append,List.length_map,List.length_map,List.length_map,ln];omega),fun p2 np2=>?_⟩
    refine q p2 _ (Same.free' s2 np2) ?_ (Same.trans s2 (same_new np2))
    rw [upd_same,List.map_append,List.map_append]
end
end Fm
namespace Fm
open PySem PySem.Spec PyProof.Rows L2
open Fc (Bytes Size Len Conv Use Val signedOf has figures lead textOf Piece uses spell spelling)
section
variable {P:Program} {w:World} {K:PySem.W.Frag} {mg:Str→Option Value} {base:Heap}
theorem ok_field_of {f Cd Ca Cg Ce:Addr} {fd:FuncData} (F:Fun K "field_of" "field_of" s_field_of f fd) (TD:TDr K Cd) (T:TAg K mg Cg) (S:TKd K mg) (R:TRu K mg) (cFd:CalC P w K mg base Ce "Field" ["self","before","body"] 1 (spFdInit Ce))
 (cAP:Cal P w K mg base CX0 "asked_precision" ["directive","arguments"] 3 (spAskedP Cd Ca Cg)) (cSh:Cal P w K mg base CX0 "shown_text" ["argument","precision","pool"] 1 (spShown K Cg)) (cSF:Cal P w K mg base CX0 "signed_field" ["directive","number","least"] 3 (spSigField Cd Ca Ce))
 (cUF:Cal P w K mg base CX0 "unsigned_field" ["directive","number","least"] 3 (spUnsField Cd Ca Ce)) (cSN:Cal P w K mg base CX0 "signed_number" ["value","length"] 1 spSig) (cUN:Cal P w K mg base CX0 "unsigned_number" ["value","length"] 1 spUns):
 FnOk P w K mg base CX0 4 f fd ["directive","arguments","pool"] (spFieldOf K Cd Ca Cg Ce):=by
 refine F.ok sc_field_of (fun vs H Q E h=>?_) (fun cdv A outer s H vs Q E hr h=>?_)
 ·obtain ⟨x,al,pl,dx,fl,wd,pr,u,place,size,xs,v,pool,rfl,_⟩:=h
  rfl
 ·obtain ⟨x,al,pl,dx,fl,wd,pr,u,place,size,xs,v,pool,rfl,D0,ag,hpl,hst,ha1,hv,htx,hpo,q⟩:=h
  have hr1:Room 1 _:=hr.mono (by decide)
  have hr2:Room 2 _:=hr.mono (by decide)
  refine ⟨_,pss_cons (ps_set (i:=3) sc_field_of.nd rfl (Or.inl rfl) (pe_ix ix_list (pv 1) (pe_op op_sub (pe_fld (pv 0) rfl) pe_int) (fun _ _=>rfl)))
   (pss_cons (ps_set (i:=4) sc_field_of.nd rfl (Or.inl rfl) (pe_cal cAP hr pass0 (pa_cons (pv 0) (pa_cons (pv 1) pa_nil))))
   (pss_cons (ps_if (pt_cmpR op_eq (pe_fld (pv 0) rfl) (pe_gi R.LC) (nomark _)) (pss_one (ps_ret (pe_calc cFd hr2 (pa_cons (pe_lst pa_nil) (pa_cons (pe_lst (pa_cons (pe_op op_mod (pe_fld (pv 3) rfl) pe_int) pa_nil)) pa_nil))))) pss_nil)
   (pss_cons (ps_if (pt_cmpR op_eq (pe_fld (pv 0) rfl) (pe_gi S.LS) (nomark _)) (pss_one (ps_ret (pe_calc cFd hr2 (pa_cons (pe_lst pa_nil) (pa_cons (pe_cal cSh hr1 pass0 (pa_cons (pv 3) (pa_cons (pv 4) (pa_cons (pv 2) pa_nil)))) pa_nil))))) pss_nil)
   (pss_cons (ps_set (i:=5) sc_field_of.nd rfl (Or.inl rfl) (pe_ifExp (pt_cmpR op_isN (pv 4) pe_non (nomark _)) pe_int (pv 4)).mono)
   (pss_cons (ps_if (pt_cmpR op_in_seq (pe_fld (pv 0) rfl) (pe_gt S.SIG) (by with_unfolding_all rfl)) (pss_one (ps_ret (pe_cal cSF hr pass0 (pa_cons (pv 0) (pa_cons (pe_cal cSN hr1 pass0 (pa_cons (pe_fld (pv 3) rfl) (pa_cons (pe_fld (pv 0) rfl) pa_nil))) (pa_cons (pv 5) pa_nil)))))) pss_nil)
   (pss_one (ps_ret (pe_cal cUF hr pass0 (pa_cons (pv 0) (pa_cons (pe_cal cUN hr1 pass0 (pa_cons (pe_fld (pv 3) rfl) (pa_cons (pe_fld (pv 0) rfl) pa_nil))) (pa_cons (pv 5) pa_nil))))))))))),?_⟩
  obtain ⟨hx,hfl,hw,hp⟩:=id D0
  obtain ⟨as,hal,hag⟩:=id ag
  have las:=hag.length
  have hvl:=(List.getElem?_eq_some_iff.mp hv).1
  obtain ⟨y,hy⟩:∃y,as[u.arg - 1]?=some y:=⟨_,List.getElem?_eq_getElem (by omega)⟩
  obtain ⟨v',hv',d2,hy2⟩:=pgetL hag hy
  rw [hv] at hv'
  cases hv'
  have eg:((u.arg:Nat):Int) - 1=((u.arg - 1:Nat):Int):=by omega
  obtain ⟨po,epo⟩:∃po,precOf u.dir.prec (u.prec.getD 0) xs=po:=⟨_,rfl⟩
  rw [epo] at q hpo
  refine ⟨_,rfl,_,rfl,x,Cd,dx,_,_,rfl,hx,TD.cl,TD.nArg,rfl,_,_,rfl,rfl,al,_,_,V.ref y,rfl,rfl,SqL.of hal,?_,?_⟩
  ·show atI (as.map V.ref) (((u.arg:Nat):Int) - 1)=_
   rw [eg]
   exact atI_nat (j:=u.arg - 1) (by rw [List.getElem?_map,hy];rfl)
  refine ⟨_,rfl,_,rfl,x,al,dx,fl,wd,pr,u,place,size,xs,rfl,D0,ag,hst,?_⟩
  rw [epo]
  have make:∀{H2:Hp} {l1 l2:Addr} {bf bd:Bytes},H2 l1=some (.lst (bf.map vb))→H2 l2=some (.lst (bd.map vb))→Same H H2→partsOf u.dir po v pool=(bf,bd)→
   ∀y dxx,H2 y=none→H2 dxx=none→dxx≠y→spFdInit Ce [.ref y,.ref l1,.ref l2] (upd (upd H2 dxx (.own y)) y (.ins Ce dxx [])) (fun v H3=>v=.non∧Q (.ref y) H3) E0:=fun {H2 l1 l2 bf bd} g1 g2 g3 e1 y dxx ny nd nyd=>by
   refine ⟨y,dxx,l1,l2,rfl,upd_same,fun dd H3 hy3 b3=>⟨rfl,?_⟩⟩
   have s3:Same H2 H3:=amNew ny nd b3
   refine q y H3 ?_ (Same.trans g3 s3)
   rw [e1]
   exact ⟨dd,l1,l2,hy3,s3 _ _ g1,s3 _ _ g2⟩
  refine ⟨_,rfl,x,Cd,dx,_,_,rfl,hx,TD.cl,TD.nCv,rfl,rfl,_,rfl,iteB (cv_char _ _) ?_⟩
  refine ite2 (fun hc=>?_) fun hc=>?_
  ·have hc:=of_decide_eq_true hc
   refine ⟨Nat.zero_le _,fun l1 n1=>⟨_,rfl,y,Cg,d2,_,_,rfl,same_new n1 _ _ hy2,T.cl,T.nVa,rfl,_,_,rfl,rfl,(by show (0:Int) < 256;decide),(by show 1≤sizeLine;decide),fun l2 n2=>?_⟩⟩
   refine make (bf:=[]) (bd:=[UInt8.ofNat v.value]) (same_new n2 _ _ upd_same) ?_ (Same.trans (same_new n1) (same_new n2)) (by unfold partsOf;rw [if_pos hc])
   rw [upd_same]
   show some (HO.lst [V.int (((v.value:Nat):Int) % 256)])=some (HO.lst [vb (UInt8.ofNat v.value)])
   have:vb (UInt8.ofNat v.value)=V.int (((v.value:Nat):Int) % 256):=by
    unfold vb
    rw [UInt8.toNat_ofNat']
    exact congrArg V.int (Int.natCast_emod _ _)
   rw [this]
  ·have hc:¬u.dir.conv=.char:=fun z=>hc (decide_eq_true z)
   refine ⟨_,rfl,x,Cd,dx,_,_,rfl,hx,TD.cl,TD.nCv,rfl,rfl,_,rfl,iteB (cv_text _ _) ?_⟩
   refine ite2 (fun ht=>?_) fun ht=>?_
   ·have ht:=of_decide_eq_true ht
    refine ⟨Nat.zero_le _,fun l1 n1=>⟨_,rfl,_,rfl,_,rfl,y,pl,v,po,pool,rfl,⟨d2,same_new n1 _ _ hy2⟩,SqL.same hpl (same_new n1),htx ht,fun l2 H2 n2 hl2 s2=>?_⟩⟩
    exact make (bf:=[]) (s2 _ _ upd_same) hl2 (Same.trans (same_new n1) s2) (by unfold partsOf;rw [if_neg hc,if_pos ht])
   ·have ht:¬u.dir.conv=.text:=fun z=>ht (decide_eq_true z)
    refine ⟨fun z H1=>z=.int (po.getD 1:Nat)∧H=H1,?_,?_⟩
    ·refine ⟨_,rfl,rfl,_,rfl,?_⟩
     cases po with
     | none=>exact iteT ⟨rfl,rfl⟩
     | some n=>exact iteF ⟨_,rfl,rfl,rfl⟩
    ·rintro z H1 ⟨rfl,rfl⟩
     refine ⟨_,rfl,x,Cd,dx,_,_,rfl,hx,TD.cl,TD.nCv,rfl,fun g hg=>⟨g,_,rfl,.inr (hg _),rfl,by decide,_,rfl,iteB (inV_sig _ _) ?_⟩⟩
     refine ite2 (fun hs=>?_) fun hs=>?_
     ·refine ⟨_,rfl,_,rfl,y,Cg,d2,_,_,rfl,hy2,T.cl,T.nVa,rfl,_,rfl,x,Cd,dx,_,_,rfl,hx,TD.cl,TD.nLen,rfl,v.value,u.dir.len,rfl,_,rfl,x,dx,fl,wd,pr,u.dir,place,size,_,_,_,_,po.getD 1,rfl,D0,signed_small _ _,hpo,fun y' H2 fa s2=>q y' H2 ?_ s2⟩
      have:partsOf u.dir po v pool=(signB u.dir (signedOf (bitsL u.dir.len) v.value),digsOf u.dir.conv (po.getD 1) (signedOf (bitsL u.dir.len) v.value).natAbs):=by unfold partsOf;rw [if_neg hc,if_neg ht,if_pos hs]
      rw [this]
      exact fa
     ·refine ⟨_,rfl,_,rfl,y,Cg,d2,_,_,rfl,hy2,T.cl,T.nVa,rfl,_,rfl,x,Cd,dx,_,_,rfl,hx,TD.cl,TD.nLen,rfl,v.value,u.dir.len,rfl,_,rfl,x,dx,fl,wd,pr,u.dir,place,size,_,_,_,v.value % 2 ^ bitsL u.dir.len,po.getD 1,rfl,D0,uns_small _ _,hpo,fun y' H2 fa s2=>q y' H2 ?_ s2⟩
      have:partsOf u.dir po v pool=(unsBefore u.dir (v.value % 2 ^ bitsL u.dir.len),unsBody u.dir (po.getD 1) (v.value % 2 ^ bitsL u.dir.len)):=by unfold partsOf;rw [if_neg hc,if_neg ht,if_neg hs]
      rw [this]
      exact fa
end
theorem amt_size (s:Size) (o:Option Nat) (xs:List Val) (h:o.isSome=szStar s):(Fc.sizeOf s o xs).getD 0=amtOf s (o.getD 0) xs:=by
 unfold amtOf
 cases s<;>cases o<;>first | rfl | cases h
theorem prec_size (s:Size) (o:Option Nat) (xs:List Val) (h:o.isSome=szStar s):((Fc.sizeOf s o xs).bind fun q=>if q < 0 then none else some q.toNat)=precOf s (o.getD 0) xs:=by
 unfold precOf amtOf
 cases s<;>cases o<;>first | cases h | skip
 ·rfl
 ·rfl
 ·rename_i n
  show (if ((n:Nat):Int) < 0 then none else some ((n:Nat):Int).toNat)=if true=true∧(0:Int)≤(n:Nat) then some ((n:Nat):Int).toNat else none
  rw [if_neg (by omega),if_pos ⟨rfl,by omega⟩]
 ·rename_i n
  show (if signedOf 32 (Fc.valAt xs n).value < 0 then none else some (signedOf 32 (Fc.valAt xs n).value).toNat)=if true=true∧(0:Int)≤signedOf 32 (Fc.valAt xs n).value then some (signedOf 32 (Fc.valAt xs n).value).toNat else none
  by_cases hz:signedOf 32 (Fc.valAt xs n).value < 0
  ·rw [if_pos hz,if_neg (by rintro ⟨_,z⟩;omega)]
  ·rw [if_neg hz,if_pos ⟨rfl,by omega⟩]
 ·rename_i m n
  show (if signedOf 32 (Fc.valAt xs n).value < 0 then none else some (signedOf 32 (Fc.valAt xs n).value).toNat)=if true=true∧(0:Int)≤signedOf 32 (Fc.valAt xs n).value then some (signedOf 32 (Fc.valAt xs n).value).toNat else none
  by_cases hz:signedOf 32 (Fc.valAt xs n).value < 0
  ·rw [if_pos hz,if_neg (by rintro ⟨_,z⟩;omega)]
  ·rw [if_neg hz,if_pos ⟨rfl,by omega⟩]
theorem wide_pad (d:Fc.Dir) (w:Int) (b:Bytes) (h48:has d 48=false∨has d 45=true):Fc.padded (has d 45||decide (w < 0)) w.natAbs b=wide d w [] b:=by
 unfold Fc.padded wide miss
 by_cases hw:w < 0<;>cases h45:has d 45<;>simp [hw,h45]
 intro h
 rcases h48 with z | z
 ·rw [h] at z;cases z
 ·rw [h45] at z;cases z
theorem field_parts {d:Fc.Dir} (hr:rightFlags d=true) (w:Int) (p:Option Int) (v:Val) (pool:Bytes):Fc.field d w p v.value (textOf v pool)=wide d w (partsOf d (p.bind fun q=>if q < 0 then none else some q.toNat) v pool).1 (partsOf d (p.bind fun q=>if q < 0 then none else some q.toNat) v pool).2:=by
 rw [right_parts] at hr
 simp only [Bool.and_eq_true] at hr
 obtain ⟨r1,r2,r3,r4,r5,_⟩:=hr
 generalize hpo:(p.bind fun q=>if q < 0 then none else some q.toNat)=po
 unfold Fc.field
 rw [hpo]
 dsimp only
 have nz:Fc.isNumber d.conv=false→has d 48=false∨has d 45=true:=fun hn=>by
  unfold p2 at r2
  rw [hn,Bool.and_false,Bool.or_false] at r2
  exact .inl (by simpa using r2)
 have numc:∀(c:Conv),d.conv=c→(c≠.char∧c≠.text)→(if has d 48=true∧(has d 45||decide (w < 0))=false then lead d (if d.conv=.signed then signedOf (Fc.bitsOf d) v.value else ((v.value % 2 ^ Fc.bitsOf d:Nat):Int))++(List.replicate (w.natAbs - (lead d (if d.conv=.signed then signedOf (Fc.bitsOf d) v.value else ((v.value % 2 ^ Fc.bitsOf d:Nat):Int))++figures d po (if d.conv=.signed then signedOf (Fc.bitsOf d) v.value else ((v.value % 2 ^ Fc.bitsOf d:Nat):Int)).natAbs).length) 48++figures d po (if d.conv=.signed then signedOf (Fc.bitsOf d) v.value else ((v.value % 2 ^ Fc.bitsOf d:Nat):Int)).natAbs)
  else Fc.padded (has d 45||decide (w < 0)) w.natAbs (lead d (if d.conv=.signed then signedOf (Fc.bitsOf d) v.value else ((v.value % 2 ^ Fc.bitsOf d:Nat):Int))++figures d po (if d.conv=.signed then signedOf (Fc.bitsOf d) v.value else ((v.value % 2 ^ Fc.bitsOf d:Nat):Int)).natAbs))=wide d w (partsOf d po v pool).1 (partsOf d po v pool).2:=fun c hc hn=>by
  have parts:partsOf d po v pool=(lead d (if d.conv=.signed then signedOf (Fc.bitsOf d) v.value else ((v.value % 2 ^ Fc.bitsOf d:Nat):Int)),figures d po (if d.conv=.signed then signedOf (Fc.bitsOf d) v.value else ((v.value % 2 ^ Fc.bitsOf d:Nat):Int)).natAbs):=by
   unfold partsOf
   rw [if_neg (by rw [hc];exact hn.1),if_neg (by rw [hc];exact hn.2),figures_digs,bits_eq]
   by_cases hs:d.conv=.signed
   ·rw [if_pos (by rw [hs];rfl),if_pos hs]
    refine Prod.ext ?_ ?_
    ·show signB d _=lead d _
     unfold signB lead
     rw [hs]
     dsimp only
     unfold p1 at r1
     by_cases h0:signedOf (bitsL d.len) v.value < 0
     ·rw [if_pos h0,if_pos h0]
     ·rw [if_neg h0,if_neg h0]
      cases h43:has d 43<;>cases h32:has d 32<;>rw [h43,h32] at r1<;>first | rfl | cases r1
    ·show digsOf _ _ _=_
     dsimp only
     rw [if_neg (by rw [hs];simp)]
   ·rw [if_neg (by intro z;cases hd:d.conv<;>rw [hd] at z<;>first | exact hs hd | cases z),if_neg hs]
    refine Prod.ext ?_ ?_
    ·show unsBefore d _=lead d _
     unfold unsBefore lead
     unfold p3 at r3
     cases hd:d.conv<;>rw [hd] at r3 hs hc
     ·exact absurd rfl hs
     ·have:has d 35=false:=by simpa [isBased] using r3
      simp [this]
     ·simp
     ·dsimp only
      by_cases z:has d 35=true∧v.value % 2 ^ bitsL d.len≠0
      ·rw [if_pos ⟨z.1,by simp,z.2⟩,if_pos ⟨z.1,by have:=z.2;omega⟩];rfl
      ·rw [if_neg fun y=>z ⟨y.1,y.2.2⟩,if_neg fun y=>z ⟨y.1,by have:=y.2;omega⟩]
     ·dsimp only
      by_cases z:has d 35=true∧v.value % 2 ^ bitsL d.len≠0
      ·rw [if_pos ⟨z.1,by simp,z.2⟩,if_pos ⟨z.1,by have:=z.2;omega⟩];rfl
      ·rw [if_neg fun y=>z ⟨y.1,y.2.2⟩,if_neg fun y=>z ⟨y.1,by have:=y.2;omega⟩]
     ·exact absurd hc.symm hn.1
     ·exact absurd hc.symm hn.2
    ·rfl
  rw [parts]
  generalize lead d _=a
  generalize figures d po _=b
  dsimp only
  unfold wide miss Fc.padded
  rw [List.length_append,Nat.sub_sub]
  by_cases hw:w < 0
  ·simp [hw]
  ·cases h45:has d 45<;>cases h48:has d 48<;>simp [hw]
 cases hc:d.conv
 ·have:=numc _ hc (by simp)
  rw [hc] at this
  exact this
 ·have:=numc _ hc (by simp)
  rw [hc] at this
  exact this
 ·have:=numc _ hc (by simp)
  rw [hc] at this
  exact this
 ·have:=numc _ hc (by simp)
  rw [hc] at this
  exact this
 ·have:=numc _ hc (by simp)
  rw [hc] at this
  exact this
 ·have:partsOf d po v pool=([],[UInt8.ofNat v.value]):=by unfold partsOf;rw [if_pos hc]
  rw [this]
  exact wide_pad d w _ (nz (by rw [hc];rfl))
 ·have:partsOf d po v pool=([],cutT v po pool):=by unfold partsOf;rw [if_neg (by rw [hc];simp),if_pos hc]
  rw [this]
  exact wide_pad d w _ (nz (by rw [hc];rfl))
end Fm
namespace Fm
open PySem PySem.Spec PyProof.Rows L2
open Fc (Bytes Size Len Conv Use Val signedOf has textOf Piece uses usesFrom spell spelling spellPiece madeBy textFrom)
def rend (xs:List Val) (pool:Bytes):Nat→Bytes→List Use→Bytes
 | _,b,[]=>plainOf b
 | a,b,u::us=>plainOf (b.take (u.at_ - a))++(madeBy u xs pool++rend xs pool (u.at_ + (spell u.dir).length) (b.drop (u.at_ - a + (spell u.dir).length)) us)
def OrdU (n:Nat):Nat→List Use→Prop
 | a,[]=>a≤n
 | a,u::us=>a≤u.at_∧OrdU n (u.at_ + (spell u.dir).length) us
theorem OrdU.weak {n a b:Nat} {us:List Use} (h:OrdU n a us) (hb:b≤a):OrdU n b us:=by
 cases us with
 | nil=>exact Nat.le_trans hb h
 | cons u us=>exact ⟨Nat.le_trans hb h.1,h.2⟩
theorem ord_uses:∀(l:List Piece) (a k:Nat),OrdU (a + (spelling l).length) a (usesFrom a k l)
 | [],a,k=>Nat.le_refl _
 | .dir d::l,a,k=>by
  rw [usesFrom_dir,spelling_cons,List.length_append,←Nat.add_assoc]
  exact ⟨Nat.le_refl _,ord_uses l _ _⟩
 | .byte c::l,a,k=>by
  rw [spelling_cons,List.length_append,←Nat.add_assoc]
  exact OrdU.weak (ord_uses l (a + 1) k) (Nat.le_succ _)
 | .percent::l,a,k=>by
  rw [spelling_cons,List.length_append,←Nat.add_assoc]
  exact OrdU.weak (ord_uses l (a + 2) k) (Nat.le_add_right _ _)
section
variable {xs:List Val} {pool:Bytes}
theorem rend_byte {c:UInt8} {b:Bytes} {a n:Nat} {us:List Use} (hc:c≠37) (h:OrdU n (a + 1) us):rend xs pool a (c::b) us=c::rend xs pool (a + 1) b us:=by
 cases us with
 | nil=>exact plain_ne b hc
 | cons u us=>
  have h1:=h.1
  have e:u.at_ - a=(u.at_ - (a + 1)) + 1:=by omega
  unfold rend
  rw [e,List.take_succ_cons,plain_ne _ hc,show u.at_ - (a + 1) + 1 + (spell u.dir).length=(u.at_ - (a + 1) + (spell u.dir).length) + 1 by omega,List.drop_succ_cons]
  rfl
theorem rend_percent {b:Bytes} {a n:Nat} {us:List Use} (h:OrdU n (a + 2) us):rend xs pool a (37::37::b) us=37::rend xs pool (a + 2) b us:=by
 cases us with
 | nil=>exact plain_37 _
 | cons u us=>
  have h1:=h.1
  have e:u.at_ - a=(u.at_ - (a + 2)) + 1 + 1:=by omega
  unfold rend
  rw [e,List.take_succ_cons,List.take_succ_cons,plain_37,show u.at_ - (a + 2) + 1 + 1 + (spell u.dir).length=(u.at_ - (a + 2) + (spell u.dir).length) + 1 + 1 by omega,List.drop_succ_cons,List.drop_succ_cons]
  rfl
theorem text_rend:∀(l:List Piece) (a k:Nat),(∀c,Piece.byte c∈l→c≠37)→textFrom xs pool l (usesFrom a k l)=rend xs pool a (spelling l) (usesFrom a k l)
 | [],a,k,_=>by
  show []=plainOf []
  rw [plain_nil]
 | .dir d::l,a,k,h=>by
  rw [usesFrom_dir,spelling_cons]
  show madeBy _ xs pool++textFrom xs pool l (usesFrom (a + (spell d).length) (stepK k d) l)=_
  rw [text_rend l _ _ fun c hc=>h c (List.mem_cons_of_mem _ hc)]
  unfold rend
  show _=plainOf ((spell d++spelling l).take (a - a))++(_++rend xs pool (a + (spell d).length) ((spell d++spelling l).drop (a - a + (spell d).length)) _)
  rw [Nat.sub_self,List.take_zero,plain_nil,Nat.zero_add,List.drop_left,List.nil_append]
  cases usesFrom (a + (spell d).length) (stepK k d) l<;>rfl
 | .byte c::l,a,k,h=>by
  rw [spelling_cons]
  show c::textFrom xs pool l (usesFrom (a + 1) k l)=rend xs pool a (c::spelling l) (usesFrom (a + 1) k l)
  rw [text_rend l _ _ fun c hc=>h c (List.mem_cons_of_mem _ hc),rend_byte (h c List.mem_cons_self) (ord_uses l (a + 1) k)]
 | .percent::l,a,k,h=>by
  rw [spelling_cons]
  show 37::textFrom xs pool l (usesFrom (a + 2) k l)=rend xs pool a (37::37::spelling l) (usesFrom (a + 2) k l)
  rw [text_rend l _ _ fun c hc=>h c (List.mem_cons_of_mem _ hc),rend_percent (ord_uses l (a + 2) k)]
end
theorem plain_len:∀(n:Nat) (b:Bytes),b.length≤n→(plainOf b).length≤b.length
 | 0,b,h=>by
  have:b=[]:=List.length_eq_zero_iff.mp (by omega)
  subst this;rw [plain_nil];exact Nat.le_refl _
 | n + 1,[],_=>by rw [plain_nil];exact Nat.le_refl _
 | n + 1,c::r,h=>by
  have hr:r.length≤n:=by simpa using h
  by_cases hc:c=37
  ·subst hc
   rw [plain_37,List.length_cons,List.length_cons]
   have:=plain_len n r.tail (by rw [List.length_tail];omega)
   rw [List.length_tail] at this
   omega
  ·rw [plain_ne _ hc,List.length_cons,List.length_cons]
   have:=plain_len n r hr
   omega
theorem digs_len (c:Conv) {least n:Nat} (h:least≤1000) (hn:n < 2 ^ 64):(digsOf c least n).length≤1064:=by
 unfold digsOf
 have:=dg_len c 64 n hn
 rw [List.length_append,List.length_replicate]
 omega
theorem parts_len {d:Fc.Dir} {po:Option Nat} {v:Val} {pool:Bytes} (hp:po.getD 1≤1000) (hl:pool.length≤1000):(partsOf d po v pool).1.length≤2∧(partsOf d po v pool).2.length≤1065:=by
 unfold partsOf
 split
 ·exact ⟨Nat.zero_le _,by show 1≤1065;decide⟩
 ·split
  ·refine ⟨Nat.zero_le _,?_⟩
   have:(textOf v pool).length≤1000:=by unfold textOf;rw [List.length_take,List.length_drop];omega
   show (cutT v po pool).length≤1065
   unfold cutT
   split
   ·rw [List.length_take];omega
   ·omega
  ·split
   ·refine ⟨?_,Nat.le_succ_of_le (digs_len _ hp (signed_small _ _))⟩
    show (signB _ _).length≤2
    unfold signB
    split
    ·exact Nat.le_succ _
    ·rw [List.length_append];split<;>split<;>simp
   ·refine ⟨?_,?_⟩
    ·show (unsBefore _ _).length≤2
     unfold unsBefore
     split<;>simp
    ·have:=digs_len d.conv hp (uns_small d.len v.value)
     show (unsBody _ _ _).length≤1065
     unfold unsBody
     dsimp only
     split
     ·rw [List.length_cons];omega
     ·omega
theorem wide_len (d:Fc.Dir) (w:Int) (bf bd:Bytes):(wide d w bf bd).length≤w.natAbs + bf.length + bd.length:=by
 unfold wide miss
 split
 ·rw [List.length_append,List.length_append,List.length_replicate];omega
 ·split
  ·rw [List.length_append,List.length_append,List.length_replicate];omega
  ·rw [List.length_append,List.length_append,List.length_replicate];omega
theorem amt_bound {lo:Nat} {s:Size} {o:Option Nat} {xs:List Val} (h1:sizeOk lo s=true) (h2:o.isSome=szStar s) (h3:∀n∈o.toList,okN xs n=true):(amtOf s (o.getD 0) xs).natAbs≤999:=by
 unfold amtOf
 split
 ·rename_i hs
  rw [hs] at h2
  cases o with
  | none=>cases h2
  | some n=>
   have:=h3 n (by simp)
   unfold okN Fc.WIDE at this
   exact of_decide_eq_true this
 ·cases s with
  | is n=>
   have h1:(decide (lo≤n)&&decide (n≤Fc.WIDE))=true:=h1
   rw [Bool.and_eq_true,decide_eq_true_iff,decide_eq_true_iff] at h1
   have:n≤999:=h1.2
   show ((n:Nat):Int).natAbs≤999
   omega
  | _=>exact Nat.zero_le _
theorem prec_bound {s:Size} {g:Nat} {xs:List Val} (h:(amtOf s g xs).natAbs≤999):(precOf s g xs).getD 1≤1000:=by
 unfold precOf
 split
 ·show (amtOf s g xs).toNat≤1000
  omega
 ·show 1≤1000
  decide
def spRender (K:PySem.W.Frag) (Cf Cd Ca xa xm:Addr):Sp:=fun vs H Q E=>∃(a nl pl:Addr) (N:Addr→Prop) (bs:Bytes) (us:List Use) (ws:List (Nat×Nat)) (ns:List Nat) (pool:Bytes),vs=[.ref a,.ref nl,.ref pl]∧FmtAt Cf Cd Ca N H a bs us ws∧SqL K H nl (natV ns)∧SqL K H pl (pool.map vb)∧ns.length≤1000∧pool.length≤1000∧bs.length≤1000∧
 (∀u∈us,UseOk u∧∀x∈u.wants,1≤x.1)∧us.length≤32∧(∀u∈us,rightFlags u.dir=true∧numsOk u.dir=true)∧OrdU bs.length 0 us∧(FcCalls.valsIn ns=none→Thrown xa H E)∧
 (∀xs,FcCalls.valsIn ns=some xs→(fitOf us ws xs pool=false→Thrown xa H E)∧(fitOf us ws xs pool=true→sizedOf us xs=false→Thrown xm H E)∧(fitOf us ws xs pool=true→sizedOf us xs=true→∀tl H',H' tl=some (.lst ((rend xs pool 0 bs us).map vb))→(rend xs pool 0 bs us).length≤500000→Same H H'→Q (.ref tl) H'))
section
variable {P:Program} {w:World} {K:PySem.W.Frag} {mg:Str→Option Value} {base:Heap}
theorem ok_render {f Cf Cd Ca Cg Ce xa xm:Addr} {fd:FuncData} (F:Fun K "render" "render" s_render f fd) (TF:TFm K mg Cf) (TD:TDr K Cd) (T:TFd K mg Ce) (cRA:Cal P w K mg base (CXe P w) "read_arguments" ["numbers"] 3 (spReadArgs K Cg xa)) (cCk:Cal P w K mg base (CXe P w) "check_arguments" ["found","arguments","pool"] 4 (spCheck K Cf Cd Ca Cg xa xm))
 (cPl:Cal P w K mg base CX0 "plain_bytes" ["row","begin","end"] 1 (spPlain K)) (cFO:Cal P w K mg base CX0 "field_of" ["directive","arguments","pool"] 4 (spFieldOf K Cd Ca Cg Ce)) (cWd:Cal P w K mg base CX0 "widened" ["field","directive","width"] 1 (spWide Cd Ca Ce))
 (cAsk:Cal P w K mg base CX0 "asked_amount" ["amount","arguments"] 2 (spAsked Ca Cg)):FnOk P w K mg base (CXe P w) 5 f fd ["found","numbers","pool"] (spRender K Cf Cd Ca xa xm):=by
 refine F.okx sc_render (fun vs H Q E h=>?_) (fun cdv A outer s H vs Q E hr h=>?_)
 ·obtain ⟨a,nl,pl,N,bs,us,ws,ns,pool,rfl,_⟩:=h
  rfl
 ·obtain ⟨a,nl,pl,N,bs,us,ws,ns,pool,rfl,fa,hnl,hpl,hns,hpol,hbs,hus,h32,hrf,hord,qn,qs⟩:=h
  have hr1:Room 1 _:=hr.mono (by decide)
  have hr2:Room 2 _:=hr.mono (by decide)
  have hr3:Room 3 _:=hr.mono (by decide)
  refine ⟨_,pss_cons (ps_set (i:=3) sc_render.nd rfl (Or.inl rfl) (pe_cal cRA hr3 leave_ok.passes (pa_cons (pv 1) pa_nil)))
   (pss_cons (ps_expr (pe_cal cCk hr leave_ok.passes (pa_cons (pv 0) (pa_cons (pv 3) (pa_cons (pv 2) pa_nil)))))
   (pss_cons (ps_set (i:=4) sc_render.nd rfl (Or.inl rfl) (pe_lst pa_nil))
   (pss_cons (ps_set (i:=5) sc_render.nd rfl (Or.inl rfl) pe_int)
   (pss_cons (ps_for PassesOwn.leaving rfl (pi_list (pe_fld (pv 0) rfl)) (pg_name (i:=6) sc_render.nd rfl (Or.inl rfl))
    (pss_cons (ps_expr (pe_bm PySem.F.plainAttrs_list PySem.F.slot_list_extend PySem.F.type_list_extend mt_extend (pv 4) (pa_cons (pe_cal cPl hr1 pass0 (pa_cons (pe_fld (pv 0) rfl) (pa_cons (pv 5) (pa_cons (pe_fld (pv 6) rfl) pa_nil)))) pa_nil)))
    (pss_cons (ps_set (i:=7) sc_render.nd rfl (Or.inl rfl) (pe_cal cFO hr pass0 (pa_cons (pv 6) (pa_cons (pv 3) (pa_cons (pv 2) pa_nil)))))
    (pss_cons (ps_expr (pe_bm PySem.F.plainAttrs_list PySem.F.slot_list_extend PySem.F.type_list_extend mt_extend (pv 4) (pa_cons (pe_cal cWd hr1 pass0 (pa_cons (pv 7) (pa_cons (pv 6) (pa_cons (pe_cal cAsk hr2 pass0 (pa_cons (pe_fld (pv 6) rfl) (pa_cons (pv 3) pa_nil))) pa_nil)))) pa_nil)))
    (pss_one (ps_set (i:=5) sc_render.nd rfl (Or.inl rfl) (pe_op op_add (pe_fld (pv 6) rfl) (pe_fld (pv 6) rfl))))))))
   (pss_cons (ps_expr (pe_bm PySem.F.plainAttrs_list PySem.F.slot_list_extend PySem.F.type_list_extend mt_extend (pv 4) (pa_cons (pe_cal cPl hr1 pass0 (pa_cons (pe_fld (pv 0) rfl) (pa_cons (pv 5) (pa_cons (pe_callB call_len_seq (by rfl) T.len PySem.boot_len (pa_cons (pe_fld (pv 0) rfl) pa_nil)) pa_nil)))) pa_nil)))
   (pss_one (ps_ret (pv 4)))))))),?_⟩
  refine ⟨_,rfl,nl,ns,rfl,hnl,hns,fun xs exs al H1 ag1 s1=>?_,fun e=>qn e⟩
  obtain ⟨qa,qm,qo⟩:=qs xs exs
  have hxl:xs.length≤1000:=by
   by_cases h3:ns.length % 3=0
   ·obtain ⟨n,hn⟩:∃n,ns.length=3 * n:=⟨ns.length / 3,by omega⟩
    rw [vals_in n ns hn] at exs
    cases exs
    rw [valsOf_len]
    omega
   ·rw [vals_none _ ns rfl h3] at exs
    cases exs
  refine ⟨_,rfl,_,rfl,_,rfl,a,al,pl,N,bs,us,ws,xs,pool,rfl,fa.keep (Same.keep s1),ag1,SqL.same hpl s1,hxl,hus,h32,fun hfit hsz H2 s2=>?_,fun z=>(qa z).same s1,fun z1 z2=>(qm z1 z2).same s1⟩
  have S2:=Same.trans s1 s2
  have ag2:=ag1.same s2
  have qo:=qo hfit hsz
  have hmis:misuseOf us ws (xs.map fun (v:Val)=>v.type)=none:=by
   unfold fitOf at hfit
   rw [Bool.and_eq_true] at hfit
   exact Option.isNone_iff_eq_none.mp hfit.1
  have hpool:∀v∈xs,v.type=5→v.value + v.len≤pool.length:=fun v hv h5=>by
   unfold fitOf at hfit
   rw [Bool.and_eq_true,List.all_eq_true] at hfit
   have:=hfit.2 v hv
   rw [h5] at this
   simpa using this
  have gd:=good_of hmis
  have szd:∀u∈us,∀n∈u.width.toList++u.prec.toList,okN xs n=true:=fun u hu n hn=>by
   unfold sizedOf at hsz
   rw [List.all_eq_true] at hsz
   have:=hsz u hu
   rw [List.all_eq_true] at this
   exact this n hn
  refine ⟨Nat.zero_le _,fun tl ntl=>?_⟩
  have S3:Same H (upd H2 tl (.lst [])):=Same.trans S2 (same_new ntl)
  obtain ⟨dx,rl,dl,kd,ds,kvs,fx⟩:=fa.keep (Same.keep S2)
  have lds:=fx.us.length
  refine ⟨_,rfl,a,Cf,dx,_,_,rfl,same_new ntl _ _ fx.ha,TF.cl,TF.nDir,rfl,dl,rfl,⟨_,SqL.of (same_new ntl _ _ fx.hd)⟩,?_⟩
  refine for_list (xs:=ds.map V.ref) (fun i σ H'=>Same H2 H'∧∃(at_:Nat) (acc:Bytes) (v6 v7:Option V),σ=[some (.ref a),some (.ref nl),some (.ref pl),some (.ref al),some (.ref tl),some (.int (at_:Nat)),v6,v7]∧H' tl=some (.lst (acc.map vb))∧acc++rend xs pool at_ (bs.drop at_) (us.drop i)=rend xs pool 0 bs us∧
   OrdU bs.length at_ (us.drop i)∧acc.length≤5000 * i) ⟨same_new ntl,0,[],none,none,rfl,upd_same,rfl,hord,Nat.zero_le _⟩ (fun i σ H' _ h=>SqL.of (h.1 _ _ fx.hd)) (fun i y σ H3 hi h=>?_) fun σ H3 h=>?_
  ·obtain ⟨s3,at_,acc,v6,v7,rfl,htl,eacc,hor,hal⟩:=h
   rw [List.getElem?_map] at hi
   obtain ⟨x,hx,rfl⟩:=Option.map_eq_some_iff.mp hi
   obtain ⟨u,hu,ua⟩:=pgetL fx.us hx
   have hum:=List.mem_of_getElem? hu
   obtain ⟨uok,u1⟩:=hus u hum
   obtain ⟨rf,nk⟩:=hrf u hum
   have hul:i < us.length:=(List.getElem?_eq_some_iff.mp hu).1
   have hdu:us.drop i=u::us.drop (i + 1):=by
    rw [List.drop_eq_getElem_cons hul]
    congr 1
    exact Option.some.inj (by rw [←hu,List.getElem?_eq_getElem hul])
   rw [hdu] at hor eacc
   obtain ⟨o1,o2⟩:=hor
   have o3:u.at_ + (spell u.dir).length≤bs.length:=by
    cases hd:us.drop (i + 1) with
    | nil=>rw [hd] at o2;exact o2
    | cons v r=>
     rw [hd] at o2
     have:∀(n a:Nat) (l:List Use),OrdU n a l→a≤n:=fun n a l=>by
      induction l generalizing a with
      | nil=>exact fun z=>z
      | cons v r ih=>exact fun z=>by have:=ih _ z.2;have:=z.1;omega
     exact this _ _ _ o2
   obtain ⟨nx,dd,fl,wd,pr,n1,n2,n3,wp,hx2,hfl,hw,hp⟩:=DirG.keep ua (Same.keep s3)
   refine ⟨_,rfl,.inl ⟨rfl,_,SqL.of htl⟩,_,rfl,a,Cf,dx,_,_,rfl,s3 _ _ fx.ha,TF.cl,TF.nRow,rfl,_,rfl,_,rfl,x,Cd,dd,_,_,rfl,hx2,TD.cl,TD.nPlace,rfl,rl,at_,u.at_,bs,rfl,SqL.of (s3 _ _ fx.hr),by omega,hbs,fun l1 H4 nl1 hl1 s4=>?_⟩
   have tl4:=s4 _ _ htl
   have pl1:(plainOf ((bs.drop at_).take (u.at_ - at_))).length≤1000:=by
    have:=plain_len _ ((bs.drop at_).take (u.at_ - at_)) (Nat.le_refl _)
    rw [List.length_take,List.length_drop] at this
    omega
   refine ⟨tl,l1,_,_,rfl,rfl,tl4,hl1,big1 (by rw [List.length_map,List.length_map];omega),?_⟩
   generalize hH5:upd H4 tl _=H5
   have kp5:∀b o,b≠tl→H4 b=some o→H5 b=some o:=fun b o hb e=>by rw [←hH5,upd_ne hb];exact e
   have S5:Same H2 H5:=fun b o hb=>kp5 b o (ne_of_none hb ntl) (s4 b o (s3 b o hb))
   have tl5:H5 tl=some (.lst ((acc++plainOf ((bs.drop at_).take (u.at_ - at_))).map vb)):=by rw [←hH5,upd_same,List.map_append]
   obtain ⟨nx5,dd5,fl5,wd5,pr5,_,_,_,_,hx5,hfl5,hw5,hp5⟩:=DirG.keep ua (Same.keep S5)
   have D5:DirX Cd Ca H5 x dd5 fl5 wd5 pr5 u.dir u.at_ (spell u.dir).length u.arg (u.width.getD 0) (u.prec.getD 0):=⟨hx5,hfl5,hw5,hp5⟩
   have wself:(u.arg,Fc.typeOf u.dir)∈u.wants:=by unfold Use.wants;simp
   have gself:=gd u hum _ wself
   rw [List.getElem?_map] at gself
   obtain ⟨v,hv,hvt⟩:=Option.map_eq_some_iff.mp gself
   have hva:Fc.valAt xs u.arg=v:=by
    unfold Fc.valAt
    rw [List.getD_eq_getElem?_getD,show xs[u.arg - 1]?=some v from hv]
    rfl
   have stb:∀(s:Size) (o:Option Nat),o.isSome=szStar s→(∀n∈o.toList,(n,1)∈u.wants)→szStar s=true→1≤o.getD 0∧o.getD 0≤xs.length:=fun s o e1 e2 e3=>by
    rw [e3] at e1
    cases o with
    | none=>cases e1
    | some n=>
     have m:=e2 n (by simp)
     refine ⟨u1 _ m,?_⟩
     have:=(List.getElem?_eq_some_iff.mp (gd u hum _ m)).1
     rw [List.length_map] at this
     have this:n - 1 < xs.length:=this
     show n≤xs.length
     omega
   have mw:∀n∈u.width.toList,(n,1)∈u.wants:=fun n hn=>by
    unfold Use.wants
    simp only [List.mem_append,List.mem_map]
    exact .inl (.inl ⟨n,hn,rfl⟩)
   have mp:∀n∈u.prec.toList,(n,1)∈u.wants:=fun n hn=>by
    unfold Use.wants
    simp only [List.mem_append,List.mem_map]
    exact .inl (.inr ⟨n,hn,rfl⟩)
   unfold numsOk at nk
   rw [Bool.and_eq_true,Bool.and_eq_true] at nk
   have bw:=amt_bound (xs:=xs) nk.1 uok.1 fun n hn=>szd u hum n (List.mem_append_left _ hn)
   have bp:=amt_bound (xs:=xs) nk.2.1 uok.2 fun n hn=>szd u hum n (List.mem_append_right _ hn)
   have ppb:=prec_bound bp
   obtain ⟨pl2,pl3⟩:=parts_len (d:=u.dir) (po:=precOf u.dir.prec (u.prec.getD 0) xs) (v:=v) (pool:=pool) ppb hpol
   refine ⟨_,rfl,_,rfl,_,rfl,x,al,pl,dd5,fl5,wd5,pr5,u,_,_,xs,v,pool,rfl,D5,ag2.same S5,SqL.same hpl (Same.trans S2 S5),stb _ _ uok.2 mp,u1 _ wself,hv,fun ht=>hpool v (List.mem_of_getElem? hv) ?_,ppb,fun y H6 fy s6=>?_⟩
   ·have hvt:v.type=Fc.typeOf u.dir:=hvt
    rw [hvt,typeOf_eq,if_pos ht]
   have D6:=D5.same s6
   have S6:=Same.trans S5 s6
   have tl6:=s6 _ _ tl5
   refine ⟨_,rfl,.inl ⟨rfl,_,SqL.of tl6⟩,_,rfl,_,rfl,_,rfl,x,Cd,dd5,_,_,rfl,D6.1,TD.cl,TD.nW,rfl,_,rfl,wd5,al,u.dir.width,u.width.getD 0,xs,rfl,D6.2.2.1,ag2.same S6,stb _ _ uok.1 mw,?_⟩
   refine ⟨y,x,dd5,fl5,wd5,pr5,u.dir,_,_,_,_,_,_,_,_,rfl,fy,D6,by omega,by omega,by omega,fun l2 H7 nl2 hl2 s7=>?_⟩
   have made:wide u.dir (amtOf u.dir.width (u.width.getD 0) xs) (partsOf u.dir (precOf u.dir.prec (u.prec.getD 0) xs) v pool).1 (partsOf u.dir (precOf u.dir.prec (u.prec.getD 0) xs) v pool).2=madeBy u xs pool:=by
    unfold Fc.madeBy
    rw [hva,field_parts rf,amt_size _ _ _ uok.1,prec_size _ _ _ uok.2]
   rw [made] at hl2
   have ml:(madeBy u xs pool).length≤3000:=by
    rw [←made]
    have:=wide_len u.dir (amtOf u.dir.width (u.width.getD 0) xs) (partsOf u.dir (precOf u.dir.prec (u.prec.getD 0) xs) v pool).1 (partsOf u.dir (precOf u.dir.prec (u.prec.getD 0) xs) v pool).2
    omega
   have tl7:=s7 _ _ tl6
   refine ⟨tl,l2,_,_,rfl,rfl,tl7,hl2,big1 (by rw [List.length_map,List.length_map,List.length_append];omega),?_⟩
   generalize hH8:upd H7 tl _=H8
   have S8:Same H2 H8:=fun b o hb=>by rw [←hH8,upd_ne (ne_of_none hb ntl)];exact s7 b o (S6 b o hb)
   have hx8:H8 x=some (.ins Cd dd5 (dirF u.at_ (spell u.dir).length u.dir.pos.isSome u.arg fl5 wd5 pr5 (lenStr u.dir.len) (convByte u.dir.conv u.dir.i))):=by
    rw [←hH8,upd_ne (ne_of (s7 _ _ D6.1) tl7 (by intro z;cases z))]
    exact s7 _ _ D6.1
   refine ⟨_,rfl,x,Cd,dd5,_,_,rfl,hx8,TD.cl,TD.nPlace,rfl,_,rfl,x,Cd,dd5,_,_,rfl,hx8,TD.cl,TD.nSize,rfl,_,_,rfl,rfl,S8,u.at_ + (spell u.dir).length,(acc++plainOf ((bs.drop at_).take (u.at_ - at_)))++madeBy u xs pool,some (.ref x),some (.ref y),?_,?_,?_,o2,?_⟩
   ·have:((u.at_:Nat):Int) + (((spell u.dir).length:Nat):Int)=((u.at_ + (spell u.dir).length:Nat):Int):=by omega
    rw [←this]
    rfl
   ·rw [←hH8,upd_same,List.map_append (l₁:=acc++_)]
   ·rw [←eacc]
    unfold rend
    rw [List.drop_drop,show at_ + (u.at_ - at_ + (spell u.dir).length)=u.at_ + (spell u.dir).length by omega]
    simp only [List.append_assoc]
    cases us.drop (i + 1)<;>rfl
   ·rw [List.length_append,List.length_append]
    omega
  ·obtain ⟨s3,at_,acc,v6,v7,rfl,htl,eacc,hor,hal⟩:=h
   rw [List.length_map,lds] at hal
   rw [List.length_map,lds,List.drop_length] at eacc hor
   have hor:at_≤bs.length:=hor
   refine ⟨_,rfl,.inl ⟨rfl,_,SqL.of htl⟩,_,rfl,a,Cf,dx,_,_,rfl,s3 _ _ fx.ha,TF.cl,TF.nRow,rfl,_,rfl,_,rfl,a,Cf,dx,_,_,rfl,s3 _ _ fx.ha,TF.cl,TF.nRow,rfl,rl,_,rfl,.inl (SqL.of (s3 _ _ fx.hr)),rl,at_,bs.length,bs,(by rw [List.length_map];rfl),SqL.of (s3 _ _ fx.hr),Nat.le_refl _,hbs,fun l1 H4 nl1 hl1 s4=>?_⟩
   have ep:(bs.drop at_).take (bs.length - at_)=bs.drop at_:=List.take_of_length_le (by rw [List.length_drop];exact Nat.le_refl _)
   rw [ep] at hl1
   have pl1:(plainOf (bs.drop at_)).length≤1000:=by
    have:=plain_len _ (bs.drop at_) (Nat.le_refl _)
    rw [List.length_drop] at this
    omega
   have eacc:acc++plainOf (bs.drop at_)=rend xs pool 0 bs us:=eacc
   refine ⟨tl,l1,_,_,rfl,rfl,s4 _ _ htl,hl1,big1 (by rw [List.length_map,List.length_map];omega),_,rfl,?_⟩
   refine qo tl _ ?_ ?_ ?_
   ·rw [upd_same,←eacc,List.map_append]
   ·rw [←eacc,List.length_append];omega
   ·intro b o hb
    rw [upd_ne (ne_of_none (S2 b o hb) ntl)]
    exact s4 b o (s3 b o (S2 b o hb))
end
end Fm
namespace Fm
open Fc
structure Good (l:List Piece):Prop where
 byte:∀c,Piece.byte c∈l→c≠37
 tog:together l=true
 right:∀d∈dirsOf l,rightFlags d=true∧numsOk d=true
theorem good_nil:Good []:=⟨by simp,rfl,by simp [dirsOf]⟩
theorem rd_good:∀(n:Nat) (l:List Piece) (b:Bytes) (p:Nat) (m:List Piece),b.length=n→rd l b p=.ok m→Good l→Good m∧spelling m=spelling l++b:=fun n=>by
 induction n using Nat.strongRecOn with
 | ind n ih=>
  intro l b p m hn h g
  cases b with
  | nil=>
   rw [rd_nil] at h
   cases h
   exact ⟨g,(List.append_nil _).symm⟩
  | cons c r=>
   have hr:r.length < n:=by rw [←hn];exact Nat.lt_succ_self _
   by_cases hc:c=37
   ·subst hc
    by_cases hh:r.head?=some 37
    ·obtain ⟨t,rfl⟩:∃t,r=37::t:=by
      cases r with
      | nil=>cases hh
      | cons y t=>cases hh;exact ⟨t,rfl⟩
     rw [rd_percent] at h
     obtain ⟨h1,h2⟩:=ih t.length (by rw [List.length_cons] at hr;omega) _ _ _ _ rfl h ⟨fun c hc=>by
      rcases List.mem_append.mp hc with z | z
      ·exact g.byte c z
      ·simp at z,by rw [together_percent];exact g.tog,by rw [dirsOf_percent];exact g.right⟩
     refine ⟨h1,?_⟩
     rw [h2,spelling_append,spelling_one,List.append_assoc]
     rfl
    ·cases hs:scanDir r with
     | none=>
      rw [rd_wrong hh (by rw [hs];rfl)] at h
      cases h
     | some x=>
      obtain ⟨d,t⟩:=x
      by_cases hrf:rightFlags d=true
      ·rw [rd_dir hh hs hrf] at h
       split at h
       ·rename_i htg
        obtain ⟨hd,hno⟩:=scanDir_some hs
        obtain ⟨_,hl⟩:=spell_len hd
        obtain ⟨h1,h2⟩:=ih t.length (by omega) _ _ _ _ rfl h ⟨fun c hc=>by
         rcases List.mem_append.mp hc with z | z
         ·exact g.byte c z
         ·simp at z,htg,fun d' hd'=>by
         rw [dirsOf_dir] at hd'
         rcases List.mem_append.mp hd' with z | z
         ·exact g.right d' z
         ·rw [List.mem_singleton.mp z];exact ⟨hrf,hno⟩⟩
        refine ⟨h1,?_⟩
        rw [h2,spelling_append,spelling_one,List.append_assoc,scan_spell hs]
        rfl
       ·cases h
      ·rw [rd_wrong hh (by rw [hs];show (if rightFlags d=true then _ else _)=_;rw [if_neg hrf])] at h
       cases h
   ·rw [rd_byte hc] at h
    obtain ⟨h1,h2⟩:=ih r.length hr _ _ _ _ rfl h ⟨fun c' hc'=>by
     rcases List.mem_append.mp hc' with z | z
     ·exact g.byte c' z
     ·have:c'=c:=by simpa using z
      rw [this];exact hc,by rw [together_byte];exact g.tog,by rw [dirsOf_byte];exact g.right⟩
    refine ⟨h1,?_⟩
    rw [h2,spelling_append,spelling_one,List.append_assoc]
    rfl
theorem format_good {bs:Bytes} {l:List Piece} (h:formatIn bs=.ok l):Good l∧spelling l=bs:=by
 rw [formatIn_rd] at h
 obtain ⟨h1,h2⟩:=rd_good _ _ _ _ _ rfl h good_nil
 exact ⟨h1,h2⟩
theorem wants_pos {k:Nat} (hk:1≤k) {d:Dir} (hn:numsOk d=true) (a:Nat):∀x∈(useOf a k d).wants,1≤x.1:=by
 unfold numsOk at hn
 rw [Bool.and_eq_true,Bool.and_eq_true] at hn
 have pl:∀n,placeOk n=true→1≤n:=fun n h=>by
  unfold placeOk at h
  rw [Bool.and_eq_true,decide_eq_true_iff] at h
  exact h.1
 have sz:∀(k lo:Nat) (s:Size),1≤k→sizeOk lo s=true→∀n∈(sizeArg k s).toList,1≤n:=fun k lo s hk hs n hn=>by
  cases s with
  | next=>have:n=k:=by simpa [sizeArg] using hn
          omega
  | arg m=>have:n=m:=by simpa [sizeArg] using hn
           rw [this];exact pl m hs
  | _=>simp [sizeArg] at hn
 have kw:1≤kW k d:=by unfold kW;split<;>omega
 have kp:1≤kP k d:=by unfold kP;split<;>omega
 rw [useOf_wants]
 intro x hx
 simp only [List.mem_append,List.mem_map,List.mem_singleton] at hx
 rcases hx with (⟨n,h1,rfl⟩ | ⟨n,h1,rfl⟩) | rfl
 ·exact sz k 1 _ hk hn.1 n h1
 ·exact sz _ 0 _ kw hn.2.1 n h1
 ·show 1≤argOf k d
  unfold argOf
  cases hp:d.pos with
  | none=>exact kp
  | some n=>
   have:=hn.2.2
   rw [hp] at this
   exact pl n this
theorem usesFrom_pos:∀(l:List Piece) (a k:Nat),1≤k→(∀d∈dirsOf l,numsOk d=true)→∀u∈usesFrom a k l,∀x∈u.wants,1≤x.1
 | [],_,_,_,_,u,h=>by cases h
 | .dir d::l,a,k,hk,hd,u,h=>by
  rw [usesFrom_dir] at h
  have hd':∀e∈dirsOf l,numsOk e=true:=fun e he=>hd e (List.mem_cons_of_mem _ he)
  rcases List.mem_cons.mp h with rfl | h
  ·exact wants_pos hk (hd d List.mem_cons_self) a
  ·refine usesFrom_pos l _ _ ?_ hd' u h
   unfold stepK kP kW
   split<;>split<;>split<;>omega
 | .byte _::l,a,k,hk,hd,u,h=>usesFrom_pos l (a + 1) k hk hd u h
 | .percent::l,a,k,hk,hd,u,h=>usesFrom_pos l (a + 2) k hk hd u h
theorem uses_pos {l:List Piece} (g:Good l):∀u∈uses l,UseOk u∧∀x∈u.wants,1≤x.1:=fun u hu=>⟨uses_ok l u hu,usesFrom_pos l 0 1 (Nat.le_refl _) (fun d hd=>(g.right d hd).2) u hu⟩
theorem uses_right {l:List Piece} (g:Good l):∀u∈uses l,rightFlags u.dir=true∧numsOk u.dir=true:=fun u hu=>g.right u.dir (by rw [←uses_dirs];exact List.mem_map.mpr ⟨u,hu,rfl⟩)
theorem uses_32 {l:List Piece} (g:Good l):(uses l).length≤32:=((together_iff l).mp g.tog).2.1
theorem uses_ord {l:List Piece} {bs:Bytes} (h:spelling l=bs):OrdU bs.length 0 (uses l):=by
 have:=ord_uses l 0 1
 rw [Nat.zero_add,h] at this
 exact this
theorem table_zero {l:List Piece} (g:Good l):tableOf (wants l) 0=0:=table_none fun x hx e=>by
 unfold Fc.wants at hx
 obtain ⟨u,hu,hx⟩:=List.mem_flatMap.mp hx
 have:=(uses_pos g u hu).2 x hx
 omega
theorem text_eq {l:List Piece} {bs:Bytes} (g:Good l) (h:spelling l=bs) (xs:List Val) (pool:Bytes):text l xs pool=rend xs pool 0 bs (uses l):=by
 unfold text
 rw [←h]
 exact text_rend l 0 1 g.byte
end Fm
namespace Fm
open PySem PySem.Spec PyProof.Rows L2
open Fc (Bytes Use Val Piece uses formatIn spelling)
structure Cs where
 desk:Addr
 rd:Addr
 fm:Addr
 dr:Addr
 am:Addr
 none_:Addr
 wf:Addr
 nd:Addr
 wa:Addr
 wm:Addr
def dkF (v:V):List (Str×V):=[("current",v)]
def DeskAt (C:Cs) (N:Addr→Prop) (H:Hp) (ad:Addr):FcCalls.State→Prop
 | none=>∃dx,H ad=some (.ins C.desk dx (dkF .non))
 | some l=>∃dx a bs,H ad=some (.ins C.desk dx (dkF (.ref a)))∧FmtAt C.fm C.dr C.am N H a bs (uses l) (Fc.wants l)∧formatIn bs=.ok l∧bs.length≤300
theorem DeskAt.obj {C:Cs} {N:Addr→Prop} {H:Hp} {ad:Addr} {s:FcCalls.State} (h:DeskAt C N H ad s):∃dx v,H ad=some (.ins C.desk dx (dkF v)):=by
 cases s with
 | none=>obtain ⟨dx,h⟩:=h;exact ⟨dx,_,h⟩
 | some l=>obtain ⟨dx,a,bs,h,_⟩:=h;exact ⟨dx,_,h⟩
theorem DeskAt.keep {C:Cs} {N:Addr→Prop} {H H':Hp} {ad:Addr} {s:FcCalls.State} (h:DeskAt C N H ad s) (k:Keep N H H') (hd:∀o,H ad=some o→H' ad=some o):DeskAt C N H' ad s:=by
 cases s with
 | none=>obtain ⟨dx,h⟩:=h;exact ⟨dx,hd _ h⟩
 | some l=>obtain ⟨dx,a,bs,h,f,r⟩:=h;exact ⟨dx,a,bs,hd _ h,f.keep k,r⟩
structure TDk (K:PySem.W.Frag) (mg:Str→Option Value) (C:Cs):Prop where
 cl:Cls K C.desk
 nCu:NoAttr K C.desk "current"
 len:mg "len"=none
 list:mg "list"=none
def spDkInit (C:Cs):Sp:=fun vs H Q _=>∃(x dx:Addr),vs=[.ref x]∧H x=some (.ins C.desk dx [])∧∀dd H',H' x=some (.ins C.desk dd (dkF .non))→But x H H'→Q .non H'
def spHeld (C:Cs):Sp:=fun vs H Q E=>∃(ad:Addr) (N:Addr→Prop) (s:FcCalls.State),vs=[.ref ad]∧DeskAt C N H ad s∧(s=none→Thrown C.none_ H E)∧(∀l a bs,s=some l→FmtAt C.fm C.dr C.am N H a bs (uses l) (Fc.wants l)→Good l→spelling l=bs→bs.length≤300→Q (.ref a) H)
def ExcFor (C:Cs) (l:List Int) (cls:Value) (dx:Option Addr) (H:Hp):Prop:=(l=[-9]∧cls=.ref C.none_∧dx=none)∨(∃(k:Nat) (d:Addr),l=[-1,(k:Int)]∧cls=.ref C.wf∧dx=some d∧H d=some (.xd [("place",.int k)]))∨
 (l=[-1]∧cls=.ref C.wa∧dx=none)∨(l=[-2]∧cls=.ref C.nd∧dx=none)∨(l=[-3]∧cls=.ref C.wm∧dx=none)
structure Aft (K:PySem.W.Frag) (C:Cs) (N:Addr→Prop) (H H':Hp) (ad ar rl:Addr) (ns t:List Int) (s:FcCalls.State):Prop where
 desk:DeskAt C N H' ad s
 cr:CrOn K C.rd H' ar rl ns t
 fr:∀b o,H b=some o→b≠ad→b≠ar→H' b=some o
def spAns (K:PySem.W.Frag) (C:Cs) (p:Int):Sp:=fun vs H Q E=>∃(ad ar rl:Addr) (N:Addr→Prop) (s:FcCalls.State) (ns:List Int) (x:FcCalls.Call) (e t:List Int),Enc x (p::e)∧vs=[.ref ad,.ref ar]∧DeskAt C N H ad s∧CrOn K C.rd H ar rl ns (e++t)∧¬N ad∧¬N ar∧(∀y,H y=none→N y)∧
 (∀l,(FcCalls.step s x).2=.refused l→∀cls dx H',ExcFor C l cls dx H'→Aft K C N H H' ad ar rl ns t s→E cls dx H')∧
 (∀l H',(∀z,(FcCalls.step s x).2≠.refused z)→H' l=some (.lst ((FormatNeutral.told (FcCalls.step s x).2).map V.int))→(FormatNeutral.told (FcCalls.step s x).2).length≤600000→H l=none→Aft K C N H H' ad ar rl ns t (FcCalls.step s x).1→Q (.ref l) H')
section
variable {K:PySem.W.Frag} {C:Cs} {N:Addr→Prop} {H H' H1:Hp} {ad ar rl:Addr} {ns r t:List Int} {s:FcCalls.State}
theorem CrOn.same (h:CrOn K C.rd H ar rl ns r) (k:Same H H'):CrOn K C.rd H' ar rl ns r:=by
 obtain ⟨hs,n,dx,ha,hk,e⟩:=h
 exact ⟨SqL.same hs k,n,dx,k _ _ ha,hk,e⟩
theorem DeskAt.same (h:DeskAt C N H ad s) (k:Same H H'):DeskAt C N H' ad s:=h.keep (Same.keep k) fun o e=>k _ _ e
theorem desk_ne (hd:DeskAt C N H ad s) (hc:CrOn K C.rd H ar rl ns r):ad≠ar:=by
 obtain ⟨dx,v,h⟩:=hd.obj
 obtain ⟨_,_,_,ha,_⟩:=hc
 exact ne_of h ha (ins_ne (by show (1:Nat)≠2;decide))
theorem DeskAt.but (h:DeskAt C N H ad s) (hc:CrOn K C.rd H ar rl ns r) (na:¬N ar) (b:But ar H H'):DeskAt C N H' ad s:=h.keep (But.keep b na) fun o e=>b _ _ e (desk_ne h hc)
theorem Aft.of (h:DeskAt C N H ad s) (hc:CrOn K C.rd H ar rl ns r) (na:¬N ar) (b:But ar H H1) (hc1:CrOn K C.rd H1 ar rl ns t) (k:Same H1 H'):Aft K C N H H' ad ar rl ns t s:=
 ⟨(h.but hc na b).same k,CrOn.same hc1 k,fun x o e _ e2=>k _ _ (b x o e e2)⟩
theorem Aft.of0 (h:DeskAt C N H ad s) (hc:CrOn K C.rd H ar rl ns t) (k:Same H H'):Aft K C N H H' ad ar rl ns t s:=⟨h.same k,CrOn.same hc k,fun x o e _ _=>k x o e⟩
theorem free_but (hc:CrOn K C.rd H ar rl ns r) (b:But ar H H1) {y:Addr} (hc1:CrOn K C.rd H1 ar rl ns t) (h:H1 y=none):H y=none:=by
 obtain ⟨_,_,_,ha,_⟩:=hc1
 exact b.free h (ne_of_none ha h)
end
section
variable {P:Program} {w:World} {K:PySem.W.Frag} {mg:Str→Option Value} {base:Heap} {C:Cs}
theorem ok_Desk_init {f:Addr} {fd:FuncData} (F:Fun K "__init__" "Desk.__init__" s_Desk_init f fd) (T:TDk K mg C):FnOk P w K mg base CX0 1 f fd ["self"] (spDkInit C):=by
 refine F.ok sc_Desk_init (fun vs H Q E h=>?_) (fun cdv A outer s H vs Q E hr h=>?_)
 ·obtain ⟨x,dx,rfl,_⟩:=h
  rfl
 ·obtain ⟨x,dx,rfl,hx,q⟩:=h
  refine ⟨_,pss_one (ps_fld (pv 0) pe_non rfl),?_⟩
  exact ⟨_,rfl,x,C.desk,dx,_,rfl,hx,T.cl,T.nCu,(by show 0 < 1000;decide),q dx _ upd_same But.upd⟩
theorem ok_Desk_held {f:Addr} {fd:FuncData} (F:Fun K "held" "Desk.held" s_Desk_held f fd) (T:TDk K mg C) (cX:CalX0 K mg C.none_ "NoFormat"):FnOk P w K mg base (CXe P w) 1 f fd ["self"] (spHeld C):=by
 refine F.okx sc_Desk_held (fun vs H Q E h=>?_) (fun cdv A outer s H vs Q E hr h=>?_)
 ·obtain ⟨ad,N,st,rfl,_⟩:=h
  rfl
 ·obtain ⟨ad,N,st,rfl,hd,qn,qs⟩:=h
  refine ⟨_,pss_cons (ps_if (pt_cmpR op_isN (pe_fld (pv 0) rfl) pe_non (nomark _)) (pss_one (ps_raise0 cX leave_ok)) pss_nil) (pss_one (ps_ret (pe_fld (pv 0) rfl))),?_⟩
  cases st with
  | none=>
   obtain ⟨dx,h⟩:=hd
   exact ⟨_,rfl,ad,C.desk,dx,_,_,rfl,h,T.cl,T.nCu,rfl,rfl,_,rfl,iteT fun e H2 g1 g2=>qn rfl H2 g2⟩
  | some l=>
   obtain ⟨dx,a,bs,h,fa,hf,hb⟩:=hd
   obtain ⟨g,sp⟩:=format_good hf
   exact ⟨_,rfl,ad,C.desk,dx,_,_,rfl,h,T.cl,T.nCu,rfl,rfl,_,rfl,iteF ⟨_,rfl,ad,C.desk,dx,_,_,rfl,h,T.cl,T.nCu,rfl,qs l a bs rfl fa g sp hb⟩⟩
theorem toI_vb (bs:Bytes):(toI bs).map V.int=bs.map vb:=by unfold toI;rw [List.map_map];rfl
theorem natI_V (ts:List Nat):(natI ts).map V.int=natV ts:=by unfold natI natV;rw [List.map_map];rfl
theorem toI_len (bs:Bytes):(toI bs).length=bs.length:=List.length_map _
theorem natI_len (ts:List Nat):(natI ts).length=ts.length:=List.length_map _
theorem ok_answer_parse {f:Addr} {fd:FuncData} (F:Fun K "answer_parse" "answer_parse" s_answer_parse f fd) (T:TDk K mg C) (TR:Cls K C.rd) (cRow:CalM P w K mg base CX0 C.rd "take_row" ["self"] 2 (spCrRow K C.rd)) (cRF:Cal P w K mg base (CXe P w) "read_format" ["row"] 10 (spReadFmt C.fm C.dr C.am C.wf)):
 FnOk P w K mg base (CXe P w) 11 f fd ["desk","reader"] (spAns K C 1):=by
 refine F.okx sc_answer_parse (fun vs H Q E h=>?_) (fun cdv A outer s H vs Q E hr h=>?_)
 ·obtain ⟨ad,ar,rl,N,st,ns,x,e,t,_,rfl,_⟩:=h
  rfl
 ·obtain ⟨ad,ar,rl,N,st,ns,x,e,t,en,rfl,hd,hc,nad,nar,hN,qe,qo⟩:=h
  cases en with
  | parse bs hl=>
   have hr2:Room 2 _:=hr.mono (by decide)
   refine ⟨_,pss_cons (ps_fld (pv 0) (pe_cal cRF hr leave_ok.passes (pa_cons (pe_calm0 (pv 1) cRow hr2 pass0) pa_nil)) rfl) (pss_one (ps_ret (pe_lst (pa_cons pe_int pa_nil)))),?_⟩
   obtain ⟨hs,k,dxr,hra,hk,ek⟩:=id hc
   refine ⟨_,rfl,ar,dxr,_,rfl,hra,rfl,ar,rl,ns,toI bs,t,rfl,(by rw [toI_len];exact hc),fun l H1 nl hl1 hc1 b1=>?_⟩
   rw [toI_vb] at hl1
   refine ⟨l,bs,rfl,hl1,by omega,fun m hm a H2 fa s2=>?_,fun k' hk' dx H2 g1 g2=>qe [-1,(k':Int)] (by show (FcCalls.step st (.parse bs)).2=_;unfold FcCalls.step;dsimp only;rw [hk']) _ _ H2 (.inr (.inl ⟨k',dx,rfl,rfl,rfl,g1⟩)) (Aft.of hd hc nar b1 hc1 g2)⟩
   have es:FcCalls.step st (.parse bs)=(some m,.done):=by unfold FcCalls.step;dsimp only;rw [hm]
   rw [es] at qo
   have hd2:=(hd.but hc nar b1).same s2
   obtain ⟨dx,v,had⟩:=hd2.obj
   refine ⟨_,rfl,ad,C.desk,dx,_,rfl,had,T.cl,T.nCu,(by show 1 < 1000;decide),(by show 1≤sizeLine;decide),fun l2 nl2=>?_⟩
   have hc2:=CrOn.same hc1 s2
   have adr:ad≠ar:=desk_ne hd hc
   have adl:ad≠l2:=ne_of_none upd_same nl2
   generalize hH3:upd H2 ad _=H3 at nl2
   have had3:H3 ad=some (.ins C.desk dx (dkF (.ref a))):=by rw [←hH3,upd_same];rfl
   have b3:But ad H2 H3:=by rw [←hH3];exact But.upd
   have fa3:FmtAt C.fm C.dr C.am N H3 a bs (uses m) (Fc.wants m):=(fa.sub fun y hy=>hN y (free_but hc b1 hc1 hy)).keep (But.keep b3 nad)
   have hc3:CrOn K C.rd H3 ar rl ns t:=by
    obtain ⟨q1,q2,q3,q4,q5,q6⟩:=hc2
    exact ⟨SqL.but q1 had b3,q2,q3,b3 _ _ q4 adr.symm,q5,q6⟩
   have ks:Same H3 (upd H3 l2 (.lst [.int 0])):=same_new nl2
   refine qo l2 _ (fun z=>by simp) upd_same (by show 1≤600000;decide) ?_ ⟨⟨dx,a,bs,ks _ _ had3,fa3.keep (Same.keep ks),hm,hl⟩,CrOn.same hc3 ks,fun b o hb h1 h2=>ks _ _ (b3 _ _ (s2 _ _ (b1 b o hb h2)) h1)⟩
   refine free_but hc b1 hc1 (Same.free' s2 ?_)
   exact b3.free nl2 adl
end
end Fm
namespace Fm
open PySem PySem.Spec PyProof.Rows L2
open Fc (Bytes Use Val Piece uses formatIn spelling)
theorem bytes_told (bs:Bytes):(FormatNeutral.told (.bytes bs)).map V.int=[V.int 0,V.int (bs.length:Nat)]++bs.map vb:=by
 show V.int 0::V.int (((bs.map fun (c:UInt8)=>(c.toNat:Int)).length:Nat):Int)::(bs.map fun (c:UInt8)=>(c.toNat:Int)).map V.int=_
 rw [List.length_map,List.map_map]
 rfl
theorem bytes_len (bs:Bytes):(FormatNeutral.told (.bytes bs)).length=bs.length + 2:=by
 show (((bs.map fun (c:UInt8)=>(c.toNat:Int)).length + 1) + 1)=_
 rw [List.length_map]
section
variable {P:Program} {w:World} {K:PySem.W.Frag} {mg:Str→Option Value} {base:Heap} {C:Cs}
theorem ok_answer_write {f:Addr} {fd:FuncData} (F:Fun K "answer_write" "answer_write" s_answer_write f fd) (T:TDk K mg C) (TF:TFm K mg C.fm) (cH:CalM P w K mg base (CXe P w) C.desk "held" ["self"] 1 (spHeld C)):FnOk P w K mg base (CXe P w) 2 f fd ["desk","reader"] (spAns K C 2):=by
 refine F.okx sc_answer_write (fun vs H Q E h=>?_) (fun cdv A outer s H vs Q E hr h=>?_)
 ·obtain ⟨ad,ar,rl,N,st,ns,x,e,t,_,rfl,_⟩:=h
  rfl
 ·obtain ⟨ad,ar,rl,N,st,ns,x,e,t,en,rfl,hd,hc,nad,nar,hN,qe,qo⟩:=h
  cases en
  refine ⟨_,pss_cons (ps_set (i:=2) sc_answer_write.nd rfl (Or.inl rfl) (pe_fld (pe_calm0 (pv 0) cH hr leave_ok.passes) rfl))
   (pss_one (ps_ret (pe_op op_cat (pe_lst (pa_cons pe_int (pa_cons (pe_callB call_len_seq (by rfl) T.len PySem.boot_len (pa_cons (pv 2) pa_nil)) pa_nil))) (pv 2)))),?_⟩
  obtain ⟨dx,v,had⟩:=hd.obj
  refine ⟨_,rfl,ad,dx,_,rfl,had,rfl,ad,N,st,rfl,hd,fun z H2 s2=>?_,fun l a bs z fa g sp hb=>?_⟩
  ·subst z
   exact qe [-9] rfl _ _ H2 (.inl ⟨rfl,rfl,rfl⟩) (Aft.of0 hd hc s2)
  ·subst z
   obtain ⟨dxf,rf,dl,kd,ds,kvs,fx⟩:=id fa
   have es:FcCalls.step (some l) .write=(some l,.bytes (spelling l)):=rfl
   rw [es,sp] at qo
   refine ⟨a,C.fm,dxf,_,_,rfl,fx.ha,TF.cl,TF.nRow,rfl,?_⟩
   refine ⟨_,rfl,rf,_,rfl,.inl (SqL.of fx.hr),(by show 2≤sizeLine;decide),fun l1 n1=>⟨_,rfl,l1,rf,_,_,rfl,rfl,upd_same,same_new n1 _ _ fx.hr,big1 (by rw [List.length_map];show 2 + _≤_;omega),fun p np=>?_⟩⟩
   have k:=Same.trans (same_new (o:=.lst [.int 0,.int ((bs.map vb).length:Nat)]) n1) (same_new (o:=.lst ([.int 0,.int ((bs.map vb).length:Nat)]++bs.map vb)) np)
   refine qo p _ (fun z=>by simp) ?_ (by rw [bytes_len];omega) (Same.free' (same_new n1) np) (Aft.of0 hd hc k)
   rw [bytes_told,←List.length_map (f:=vb)]
   exact upd_same
theorem ok_answer_count {f:Addr} {fd:FuncData} (F:Fun K "answer_count" "answer_count" s_answer_count f fd) (T:TDk K mg C) (TF:TFm K mg C.fm) (cH:CalM P w K mg base (CXe P w) C.desk "held" ["self"] 1 (spHeld C)):FnOk P w K mg base (CXe P w) 2 f fd ["desk","reader"] (spAns K C 3):=by
 refine F.okx sc_answer_count (fun vs H Q E h=>?_) (fun cdv A outer s H vs Q E hr h=>?_)
 ·obtain ⟨ad,ar,rl,N,st,ns,x,e,t,_,rfl,_⟩:=h
  rfl
 ·obtain ⟨ad,ar,rl,N,st,ns,x,e,t,en,rfl,hd,hc,nad,nar,hN,qe,qo⟩:=h
  cases en
  refine ⟨_,pss_one (ps_ret (pe_lst (pa_cons pe_int (pa_cons (pe_callB call_len_seq (by rfl) T.len PySem.boot_len (pa_cons (pe_fld (pe_calm0 (pv 0) cH hr leave_ok.passes) rfl) pa_nil)) pa_nil)))),?_⟩
  obtain ⟨dx,v,had⟩:=hd.obj
  refine ⟨_,rfl,ad,dx,_,rfl,had,rfl,ad,N,st,rfl,hd,fun z H2 s2=>?_,fun l a bs z fa g sp hb=>?_⟩
  ·subst z
   exact qe [-9] rfl _ _ H2 (.inl ⟨rfl,rfl,rfl⟩) (Aft.of0 hd hc s2)
  ·subst z
   obtain ⟨dxf,rf,dl,kd,ds,kvs,fx⟩:=id fa
   refine ⟨a,C.fm,dxf,_,_,rfl,fx.ha,TF.cl,TF.nDir,rfl,dl,_,rfl,.inl (SqL.of fx.hd),(by show 2≤sizeLine;decide),fun l1 n1=>?_⟩
   refine qo l1 _ (fun z=>by show FcCalls.num _≠_;unfold FcCalls.num;simp) ?_ (by show 2≤600000;decide) n1 (Aft.of0 hd hc (same_new n1))
   rw [upd_same,List.length_map,fx.us.length]
   rfl
theorem ok_answer_highest {f:Addr} {fd:FuncData} (F:Fun K "answer_highest" "answer_highest" s_answer_highest f fd) (TF:TFm K mg C.fm) (cH:CalM P w K mg base (CXe P w) C.desk "held" ["self"] 1 (spHeld C)) (cHi:CalM P w K mg base CX0 C.fm "highest_argument" ["self"] 1 (spHighest C.fm C.dr C.am)):
 FnOk P w K mg base (CXe P w) 2 f fd ["desk","reader"] (spAns K C 4):=by
 refine F.okx sc_answer_highest (fun vs H Q E h=>?_) (fun cdv A outer s H vs Q E hr h=>?_)
 ·obtain ⟨ad,ar,rl,N,st,ns,x,e,t,_,rfl,_⟩:=h
  rfl
 ·obtain ⟨ad,ar,rl,N,st,ns,x,e,t,en,rfl,hd,hc,nad,nar,hN,qe,qo⟩:=h
  cases en
  refine ⟨_,pss_one (ps_ret (pe_lst (pa_cons pe_int (pa_cons (pe_calm0 (pe_calm0 (pv 0) cH hr leave_ok.passes) cHi hr pass0) pa_nil)))),?_⟩
  obtain ⟨dx,v,had⟩:=hd.obj
  refine ⟨_,rfl,ad,dx,_,rfl,had,rfl,ad,N,st,rfl,hd,fun z H2 s2=>?_,fun l a bs z fa g sp hb=>?_⟩
  ·subst z
   exact qe [-9] rfl _ _ H2 (.inl ⟨rfl,rfl,rfl⟩) (Aft.of0 hd hc s2)
  ·subst z
   obtain ⟨dxf,rf,dl,kd,ds,kvs,fx⟩:=id fa
   refine ⟨a,dxf,_,rfl,fx.ha,rfl,a,N,bs,_,_,rfl,fa,wantsAll_ne l,fun H1 s1=>⟨(by show 2≤sizeLine;decide),fun l1 n1=>?_⟩⟩
   refine qo l1 _ (fun z=>by show FcCalls.num _≠_;unfold FcCalls.num;simp) ?_ (by show 2≤600000;decide) (Same.free' s1 n1) (Aft.of0 hd hc (Same.trans s1 (same_new n1)))
   rw [upd_same]
   rfl
theorem ok_answer_kind {f:Addr} {fd:FuncData} (F:Fun K "answer_kind" "answer_kind" s_answer_kind f fd) (TF:TFm K mg C.fm) (cT:CalM P w K mg base CX0 C.rd "take" ["self"] 1 (spCrTake K C.rd)) (cH:CalM P w K mg base (CXe P w) C.desk "held" ["self"] 1 (spHeld C))
 (cK:CalM P w K mg base CX0 C.fm "kind_of" ["self","argument"] 1 (spKindOf C.fm C.dr C.am)):FnOk P w K mg base (CXe P w) 2 f fd ["desk","reader"] (spAns K C 5):=by
 refine F.okx sc_answer_kind (fun vs H Q E h=>?_) (fun cdv A outer s H vs Q E hr h=>?_)
 ·obtain ⟨ad,ar,rl,N,st,ns,x,e,t,_,rfl,_⟩:=h
  rfl
 ·obtain ⟨ad,ar,rl,N,st,ns,x,e,t,en,rfl,hd,hc,nad,nar,hN,qe,qo⟩:=h
  cases en with
  | type n hn=>
   refine ⟨_,pss_cons (ps_set (i:=2) sc_answer_kind.nd rfl (Or.inl rfl) (pe_calm0 (pv 1) cT hr pass0)) (pss_one (ps_ret (pe_lst (pa_cons pe_int (pa_cons (pe_calm (pe_calm0 (pv 0) cH hr leave_ok.passes) cK hr pass0 (pa_cons (pv 2) pa_nil)) pa_nil))))),?_⟩
   obtain ⟨_,_,dxr,hra,_⟩:=id hc
   refine ⟨_,rfl,ar,dxr,_,rfl,hra,rfl,ar,rl,ns,_,t,rfl,hc,fun H1 hc1 b1=>?_⟩
   have hd1:=hd.but hc nar b1
   obtain ⟨dx,v,had⟩:=hd1.obj
   refine ⟨_,rfl,ad,dx,_,rfl,had,rfl,ad,N,st,rfl,hd1,fun z H2 s2=>?_,fun l a bs z fa g sp hb=>?_⟩
   ·subst z
    exact qe [-9] rfl _ _ H2 (.inl ⟨rfl,rfl,rfl⟩) (Aft.of hd hc nar b1 hc1 s2)
   ·subst z
    obtain ⟨dxf,rf,dl,kd,ds,kvs,fx⟩:=id fa
    refine ⟨a,dxf,_,rfl,fx.ha,rfl,_,rfl,a,N,bs,_,_,n,rfl,fa,(by show 2≤sizeLine;decide),fun l1 n1=>?_⟩
    have en:(if n=0 then 0 else Fc.wanted l n)=tableOf (Fc.wants l) n:=by
     split
     ·rename_i z;rw [z,table_zero g]
     ·rfl
    have es:FcCalls.step (some l) (.type n)=(some l,FcCalls.num (tableOf (Fc.wants l) n)):=by rw [←en];rfl
    rw [es] at qo
    refine qo l1 _ (fun z=>by unfold FcCalls.num;simp) ?_ (by show 2≤600000;decide) (free_but hc b1 hc1 n1) (Aft.of hd hc nar b1 hc1 (same_new n1))
    rw [upd_same]
    rfl
theorem ok_answer_directive {f:Addr} {fd:FuncData} (F:Fun K "answer_directive" "answer_directive" s_answer_directive f fd) (TF:TFm K mg C.fm) (TD:TDr K C.dr) (TA:TAm K C.am) (cT:CalM P w K mg base CX0 C.rd "take" ["self"] 1 (spCrTake K C.rd)) (cH:CalM P w K mg base (CXe P w) C.desk "held" ["self"] 1 (spHeld C))
 (cDA:CalM P w K mg base (CXe P w) C.fm "directive_at" ["self","index"] 1 (spDirAt C.fm C.dr C.am C.nd)) (cKd:Cal P w K mg base CX0 "own_kind" ["directive"] 1 (spKind C.dr C.am)):FnOk P w K mg base (CXe P w) 2 f fd ["desk","reader"] (spAns K C 6):=by
 refine F.okx sc_answer_directive (fun vs H Q E h=>?_) (fun cdv A outer s H vs Q E hr h=>?_)
 ·obtain ⟨ad,ar,rl,N,st,ns,x,e,t,_,rfl,_⟩:=h
  rfl
 ·obtain ⟨ad,ar,rl,N,st,ns,x,e,t,en,rfl,hd,hc,nad,nar,hN,qe,qo⟩:=h
  cases en with
  | directive n hn=>
   refine ⟨_,pss_cons (ps_set (i:=2) sc_answer_directive.nd rfl (Or.inl rfl) (pe_calm0 (pv 1) cT hr pass0))
    (pss_cons (ps_set (i:=3) sc_answer_directive.nd rfl (Or.inl rfl) (pe_calm (pe_calm0 (pv 0) cH hr leave_ok.passes) cDA hr leave_ok.passes (pa_cons (pv 2) pa_nil)))
    (pss_cons (ps_set (i:=4) sc_answer_directive.nd rfl (Or.inl rfl) (pe_lst (pa_cons (pe_fld (pv 3) rfl) (pa_cons (pe_fld (pe_fld (pv 3) rfl) rfl) (pa_cons (pe_fld (pe_fld (pv 3) rfl) rfl) pa_nil)))))
    (pss_one (ps_ret (pe_op op_cat (pe_op op_cat (pe_lst (pa_cons pe_int (pa_cons (pe_fld (pv 3) rfl) (pa_cons (pe_fld (pv 3) rfl) pa_nil)))) (pv 4)) (pe_lst (pa_cons (pe_cal cKd hr pass0 (pa_cons (pv 3) pa_nil)) pa_nil))))))),?_⟩
   obtain ⟨_,_,dxr,hra,_⟩:=id hc
   refine ⟨_,rfl,ar,dxr,_,rfl,hra,rfl,ar,rl,ns,_,t,rfl,hc,fun H1 hc1 b1=>?_⟩
   have hd1:=hd.but hc nar b1
   obtain ⟨dx,v,had⟩:=hd1.obj
   refine ⟨_,rfl,ad,dx,_,rfl,had,rfl,ad,N,st,rfl,hd1,fun z H2 s2=>?_,fun l a bs z fa g sp hb=>?_⟩
   ·subst z
    exact qe [-9] rfl _ _ H2 (.inl ⟨rfl,rfl,rfl⟩) (Aft.of hd hc nar b1 hc1 s2)
   ·subst z
    obtain ⟨dxf,rf,dl,kd,ds,kvs,fx⟩:=id fa
    refine ⟨a,dxf,_,rfl,fx.ha,rfl,_,rfl,a,N,bs,_,_,n,rfl,fa,fun u x hu ua=>?_,fun hu H2 s2=>qe [-2] ?_ _ _ H2 (.inr (.inr (.inr (.inl ⟨rfl,rfl,rfl⟩)))) (Aft.of hd hc nar b1 hc1 s2)⟩
    ·have es:FcCalls.step (some l) (.directive n)=(some l,.nums (FcCalls.told u)):=by
      show (some l,(match (uses l)[n]? with | some u=>FcCalls.Answer.nums (FcCalls.told u) | none=>FcCalls.no (-2)))=_
      rw [hu]
     rw [es] at qo
     obtain ⟨_,dd,fl,wd,pr,_,_,_,_,hx,hfl,⟨d1,hw⟩,⟨d2,hp⟩⟩:=ua
     refine ⟨_,rfl,x,C.dr,dd,_,_,rfl,hx,TD.cl,TD.nArg,rfl,_,rfl,x,C.dr,dd,_,_,rfl,hx,TD.cl,TD.nW,rfl,wd,C.am,d1,_,_,rfl,hw,TA.cl,TA.nAr,rfl,_,rfl,x,C.dr,dd,_,_,rfl,hx,TD.cl,TD.nP,rfl,pr,C.am,d2,_,_,rfl,hp,TA.cl,TA.nAr,rfl,(by show 3≤sizeLine;decide),fun l1 n1=>?_⟩
     have k1:=same_new (o:=.lst [.int u.arg,.int (u.width.getD 0:Nat),.int (u.prec.getD 0:Nat)]) n1
     refine ⟨_,rfl,x,C.dr,dd,_,_,rfl,k1 _ _ hx,TD.cl,TD.nPlace,rfl,_,rfl,x,C.dr,dd,_,_,rfl,k1 _ _ hx,TD.cl,TD.nSize,rfl,(by show 3≤sizeLine;decide),fun l2 n2=>?_⟩
     have k2:=Same.trans k1 (same_new (o:=.lst [.int 0,.int u.at_,.int (Fc.spell u.dir).length]) n2)
     refine ⟨_,rfl,l2,l1,_,_,rfl,rfl,upd_same,same_new n2 _ _ upd_same,(by show 6≤sizeLine;decide),fun l3 n3=>?_⟩
     have k3:=Same.trans k2 (same_new (o:=.lst ([.int 0,.int u.at_,.int (Fc.spell u.dir).length]++[.int u.arg,.int (u.width.getD 0:Nat),.int (u.prec.getD 0:Nat)])) n3)
     refine ⟨_,rfl,x,dd,fl,wd,pr,u.dir,_,_,_,_,_,rfl,⟨k3 _ _ hx,k3 _ _ hfl,⟨d1,k3 _ _ hw⟩,⟨d2,k3 _ _ hp⟩⟩,(by show 1≤sizeLine;decide),fun l4 n4=>?_⟩
     refine ⟨l3,l4,_,_,rfl,rfl,same_new n4 _ _ upd_same,upd_same,(by show 7≤sizeLine;decide),fun l5 n5=>?_⟩
     refine qo l5 _ (fun z=>by simp) ?_ (by show 7≤600000;decide) ?_ (Aft.of hd hc nar b1 hc1 (Same.trans k3 (Same.trans (same_new n4) (same_new n5))))
     ·rw [upd_same];rfl
     ·exact free_but hc b1 hc1 (Same.free' k1 (Same.free' (same_new n2) (Same.free' (same_new n3) (Same.free' (same_new n4) n5))))
    ·show (FcCalls.step (some l) (.directive n)).2=_
     show (match (uses l)[n]? with | some u=>FcCalls.Answer.nums (FcCalls.told u) | none=>FcCalls.no (-2))=_
     rw [hu]
     rfl
theorem ok_answer_check {f:Addr} {fd:FuncData} (F:Fun K "answer_check" "answer_check" s_answer_check f fd) (T:TDk K mg C) (cRow:CalM P w K mg base CX0 C.rd "take_row" ["self"] 2 (spCrRow K C.rd)) (cH:CalM P w K mg base (CXe P w) C.desk "held" ["self"] 1 (spHeld C))
 (cMis:Cal P w K mg base CX0 "first_misuse" ["found","kinds"] 3 (spMisuse K C.fm C.dr C.am)):FnOk P w K mg base (CXe P w) 4 f fd ["desk","reader"] (spAns K C 7):=by
 refine F.okx sc_answer_check (fun vs H Q E h=>?_) (fun cdv A outer s H vs Q E hr h=>?_)
 ·obtain ⟨ad,ar,rl,N,st,ns,x,e,t,_,rfl,_⟩:=h
  rfl
 ·obtain ⟨ad,ar,rl,N,st,ns,x,e,t,en,rfl,hd,hc,nad,nar,hN,qe,qo⟩:=h
  cases en with
  | check ts hl h64=>
   have hr1:Room 1 _:=hr.mono (by decide)
   have hr2:Room 2 _:=hr.mono (by decide)
   refine ⟨_,pss_cons (ps_set (i:=2) sc_answer_check.nd rfl (Or.inl rfl) (pe_calm0 (pv 1) cRow hr2 pass0))
    (pss_cons (ps_set (i:=3) sc_answer_check.nd rfl (Or.inl rfl) (pe_cal cMis hr pass0 (pa_cons (pe_calm0 (pv 0) cH hr1 leave_ok.passes) (pa_cons (pv 2) pa_nil))))
    (pss_one (ps_ret (pe_ifExp (pt_cmpR op_isN (pv 3) pe_non (nomark _)) (pe_lst (pa_cons pe_int (pa_cons pe_int pa_nil))) (pe_op op_cat (pe_lst (pa_cons pe_int pa_nil)) (pe_callTy call_list_of (by rfl) T.list boot_list (pa_cons (pv 3) pa_nil))))))),?_⟩
   obtain ⟨_,_,dxr,hra,_⟩:=id hc
   refine ⟨_,rfl,ar,dxr,_,rfl,hra,rfl,ar,rl,ns,natI ts,t,rfl,(by rw [natI_len];exact hc),fun kl H1 nl hl1 hc1 b1=>?_⟩
   rw [natI_V] at hl1
   have hd1:=hd.but hc nar b1
   obtain ⟨dx,v,had⟩:=hd1.obj
   refine ⟨_,rfl,ad,dx,_,rfl,had,rfl,ad,N,st,rfl,hd1,fun z H2 s2=>?_,fun l a bs z fa g sp hb=>?_⟩
   ·subst z
    exact qe [-9] rfl _ _ H2 (.inl ⟨rfl,rfl,rfl⟩) (Aft.of hd hc nar b1 hc1 s2)
   ·subst z
    refine ⟨_,rfl,a,kl,N,bs,_,_,ts,rfl,fa,SqL.of hl1,by omega,uses_pos g,uses_32 g,fun v H2 mv s2=>?_⟩
    have es:FcCalls.step (some l) (.check ts)=(some l,(match misuseOf (uses l) (Fc.wants l) ts with | none=>.nums [0] | some (c,i,n)=>.nums [(c:Int),i,(n:Int)])):=rfl
    rw [es] at qo
    refine ⟨_,rfl,rfl,_,rfl,?_⟩
    cases hm:misuseOf (uses l) (Fc.wants l) ts with
    | none=>
     rw [hm] at mv qo
     have mv:v=.non:=mv
     subst mv
     refine iteT ⟨(by show 2≤sizeLine;decide),fun l1 n1=>?_⟩
     exact qo l1 _ (fun z=>by simp) upd_same (by show 2≤600000;decide) (free_but hc b1 hc1 (Same.free' s2 n1)) (Aft.of hd hc nar b1 hc1 (Same.trans s2 (same_new n1)))
    | some y=>
     obtain ⟨c,i,n⟩:=y
     rw [hm] at mv qo
     obtain ⟨tp,rfl,htp⟩:=mv
     refine iteF ⟨(by show 1≤sizeLine;decide),fun l1 n1=>⟨_,rfl,tp,_,rfl,.inr (SqT.of (same_new n1 _ _ htp)),fun l2 n2=>⟨l1,l2,_,_,rfl,rfl,same_new n2 _ _ upd_same,upd_same,(by show 4≤sizeLine;decide),fun l3 n3=>?_⟩⟩⟩
     refine qo l3 _ (fun z=>by simp) ?_ (by show 4≤600000;decide) (free_but hc b1 hc1 (Same.free' s2 (Same.free' (same_new n1) (Same.free' (same_new n2) n3)))) (Aft.of hd hc nar b1 hc1 (Same.trans s2 (Same.trans (same_new n1) (Same.trans (same_new n2) (same_new n3)))))
     rw [upd_same]
     rfl
theorem ok_answer_same {f:Addr} {fd:FuncData} (F:Fun K "answer_same" "answer_same" s_answer_same f fd) (cRow:CalM P w K mg base CX0 C.rd "take_row" ["self"] 2 (spCrRow K C.rd)) (cH:CalM P w K mg base (CXe P w) C.desk "held" ["self"] 1 (spHeld C))
 (cRF:Cal P w K mg base (CXe P w) "read_format" ["row"] 10 (spReadFmt C.fm C.dr C.am C.wf)) (cDf:Cal P w K mg base CX0 "least_difference" ["one","other"] 2 (spDiff C.fm C.dr C.am)):FnOk P w K mg base (CXe P w) 11 f fd ["desk","reader"] (spAns K C 8):=by
 refine F.okx sc_answer_same (fun vs H Q E h=>?_) (fun cdv A outer s H vs Q E hr h=>?_)
 ·obtain ⟨ad,ar,rl,N,st,ns,x,e,t,_,rfl,_⟩:=h
  rfl
 ·obtain ⟨ad,ar,rl,N,st,ns,x,e,t,en,rfl,hd,hc,nad,nar,hN,qe,qo⟩:=h
  cases en with
  | same bs hl=>
   have hr1:Room 1 _:=hr.mono (by decide)
   have hr2:Room 2 _:=hr.mono (by decide)
   refine ⟨_,pss_cons (ps_set (i:=2) sc_answer_same.nd rfl (Or.inl rfl) (pe_calm0 (pv 1) cRow hr2 pass0))
    (pss_cons (ps_set (i:=3) sc_answer_same.nd rfl (Or.inl rfl) (pe_calm0 (pv 0) cH hr1 leave_ok.passes))
    (pss_one (ps_ret (pe_lst (pa_cons pe_int (pa_cons (pe_cal cDf hr2 pass0 (pa_cons (pv 3) (pa_cons (pe_cal cRF hr leave_ok.passes (pa_cons (pv 2) pa_nil)) pa_nil))) pa_nil)))))),?_⟩
   obtain ⟨_,_,dxr,hra,_⟩:=id hc
   refine ⟨_,rfl,ar,dxr,_,rfl,hra,rfl,ar,rl,ns,toI bs,t,rfl,(by rw [toI_len];exact hc),fun fl H1 nl hl1 hc1 b1=>?_⟩
   rw [toI_vb] at hl1
   have hd1:=hd.but hc nar b1
   obtain ⟨dx,v,had⟩:=hd1.obj
   refine ⟨_,rfl,ad,dx,_,rfl,had,rfl,ad,N,st,rfl,hd1,fun z H2 s2=>?_,fun l a bs0 z fa g sp hb=>?_⟩
   ·subst z
    exact qe [-9] rfl _ _ H2 (.inl ⟨rfl,rfl,rfl⟩) (Aft.of hd hc nar b1 hc1 s2)
   ·subst z
    have es:FcCalls.step (some l) (.same bs)=(some l,(match formatIn bs with | .error k=>.refused [-1,(k:Int)] | .ok m=>FcCalls.num (Fc.differs l m))):=rfl
    refine ⟨_,rfl,_,rfl,fl,bs,rfl,hl1,by omega,fun m hm b H2 fb s2=>?_,fun k' hk' dx H2 g1 g2=>qe [-1,(k':Int)] (by rw [es,hk']) _ _ H2 (.inr (.inl ⟨k',dx,rfl,rfl,rfl,g1⟩)) (Aft.of hd hc nar b1 hc1 g2)⟩
    rw [es,hm] at qo
    refine ⟨a,b,N,_,bs0,bs,_,_,_,_,rfl,fa.keep (Same.keep s2),fb,(by show 2≤sizeLine;decide),fun l1 n1=>?_⟩
    refine qo l1 _ (fun z=>by show FcCalls.num _≠_;unfold FcCalls.num;simp) ?_ (by show 2≤600000;decide) (free_but hc b1 hc1 (Same.free' s2 n1)) (Aft.of hd hc nar b1 hc1 (Same.trans s2 (same_new n1)))
    rw [upd_same]
    rfl
theorem ok_answer_render {f:Addr} {fd:FuncData} (F:Fun K "answer_render" "answer_render" s_answer_render f fd) (T:TDk K mg C) (cRow:CalM P w K mg base CX0 C.rd "take_row" ["self"] 2 (spCrRow K C.rd)) (cH:CalM P w K mg base (CXe P w) C.desk "held" ["self"] 1 (spHeld C))
 (cRn:Cal P w K mg base (CXe P w) "render" ["found","numbers","pool"] 5 (spRender K C.fm C.dr C.am C.wa C.wm)):FnOk P w K mg base (CXe P w) 6 f fd ["desk","reader"] (spAns K C 9):=by
 refine F.okx sc_answer_render (fun vs H Q E h=>?_) (fun cdv A outer s H vs Q E hr h=>?_)
 ·obtain ⟨ad,ar,rl,N,st,ns,x,e,t,_,rfl,_⟩:=h
  rfl
 ·obtain ⟨ad,ar,rl,N,st,ns,x,e,t,en,rfl,hd,hc,nad,nar,hN,qe,qo⟩:=h
  cases en with
  | render vs pool hv hp h64=>
   have hr1:Room 1 _:=hr.mono (by decide)
   have hr2:Room 2 _:=hr.mono (by decide)
   refine ⟨_,pss_cons (ps_set (i:=2) sc_answer_render.nd rfl (Or.inl rfl) (pe_calm0 (pv 1) cRow hr2 pass0))
    (pss_cons (ps_set (i:=3) sc_answer_render.nd rfl (Or.inl rfl) (pe_calm0 (pv 1) cRow hr2 pass0))
    (pss_cons (ps_set (i:=4) sc_answer_render.nd rfl (Or.inl rfl) (pe_cal cRn hr leave_ok.passes (pa_cons (pe_calm0 (pv 0) cH hr1 leave_ok.passes) (pa_cons (pv 2) (pa_cons (pv 3) pa_nil)))))
    (pss_one (ps_ret (pe_op op_cat (pe_lst (pa_cons pe_int (pa_cons (pe_callB call_len_seq (by rfl) T.len PySem.boot_len (pa_cons (pv 4) pa_nil)) pa_nil))) (pv 4)))))),?_⟩
   obtain ⟨_,_,dxr,hra,_⟩:=id hc
   have hc':CrOn K C.rd H ar rl ns (((natI vs).length:Int)::(natI vs++(((toI pool).length:Int)::(toI pool++t)))):=by
    rw [natI_len,toI_len]
    have:((vs.length:Int)::(natI vs++(pool.length:Int)::toI pool))++t=(vs.length:Int)::(natI vs++((pool.length:Int)::(toI pool++t))):=by simp
    rw [←this]
    exact hc
   refine ⟨_,rfl,ar,dxr,_,rfl,hra,rfl,ar,rl,ns,natI vs,_,rfl,hc',fun l1 H1 n1 hl1 hc1 b1=>?_⟩
   rw [natI_V] at hl1
   obtain ⟨_,_,dxr1,hra1,_⟩:=id hc1
   refine ⟨_,rfl,ar,dxr1,_,rfl,hra1,rfl,ar,rl,ns,toI pool,t,rfl,hc1,fun l2 H2 n2 hl2 hc2 b2=>?_⟩
   rw [toI_vb] at hl2
   have al1:l1≠ar:=fun z=>by rw [z] at hl1;rw [hra1] at hl1;cases hl1
   have hl1':=b2 _ _ hl1 al1
   have b12:=b1.trans b2
   have hd2:=hd.but hc nar b12
   obtain ⟨dx,v,had⟩:=hd2.obj
   refine ⟨_,rfl,ad,dx,_,rfl,had,rfl,ad,N,st,rfl,hd2,fun z H3 s3=>?_,fun l a bs z fa g sp hb=>?_⟩
   ·subst z
    exact qe [-9] rfl _ _ H3 (.inl ⟨rfl,rfl,rfl⟩) (Aft.of hd hc nar b12 hc2 s3)
   ·subst z
    have es:FcCalls.step (some l) (.render vs pool)=(some l,(match FcCalls.valsIn vs with | none=>FcCalls.no (-1) | some x=>if fitOf (uses l) (Fc.wants l) x pool=false then FcCalls.no (-1) else if sizedOf (uses l) x=false then FcCalls.no (-3) else .bytes (Fc.text l x pool))):=rfl
    refine ⟨_,rfl,_,rfl,a,l1,l2,N,bs,_,_,vs,pool,rfl,fa,SqL.of hl1',SqL.of hl2,by omega,by omega,by omega,uses_pos g,uses_32 g,uses_right g,uses_ord sp,fun z H3 s3=>qe [-1] (by rw [es,z];rfl) _ _ H3 (.inr (.inr (.inl ⟨rfl,rfl,rfl⟩))) (Aft.of hd hc nar b12 hc2 s3),fun xs hxs=>⟨fun z H3 s3=>qe [-1] (by rw [es,hxs];show (if _ then _ else _)=_;rw [if_pos z];rfl) _ _ H3 (.inr (.inr (.inl ⟨rfl,rfl,rfl⟩))) (Aft.of hd hc nar b12 hc2 s3),
     fun z1 z2 H3 s3=>qe [-3] (by rw [es,hxs];show (if _ then _ else _)=_;rw [if_neg (by rw [z1];simp),if_pos z2];rfl) _ _ H3 (.inr (.inr (.inr (.inr ⟨rfl,rfl,rfl⟩)))) (Aft.of hd hc nar b12 hc2 s3),fun z1 z2 tl H3 htl hlen s3=>?_⟩⟩
    have es2:FcCalls.step (some l) (.render vs pool)=(some l,.bytes (rend xs pool 0 bs (uses l))):=by
     rw [es,hxs]
     show (some l,(if _ then _ else if _ then _ else _))=_
     rw [if_neg (by rw [z1];simp),if_neg (by rw [z2];simp),text_eq g sp]
    rw [es2] at qo
    refine ⟨_,rfl,tl,_,rfl,.inl (SqL.of htl),(by show 2≤sizeLine;decide),fun p1 m1=>⟨_,rfl,p1,tl,_,_,rfl,rfl,upd_same,same_new m1 _ _ htl,big1 (by rw [List.length_map];show 2 + _≤_;omega),fun p2 m2=>?_⟩⟩
    refine qo p2 _ (fun z=>by simp) ?_ (by rw [bytes_len];omega) (free_but hc b12 hc2 (Same.free' s3 (Same.free' (same_new m1) m2))) (Aft.of hd hc nar b12 hc2 (Same.trans s3 (Same.trans (same_new m1) (same_new m2))))
    rw [bytes_told,←List.length_map (f:=vb)]
    exact upd_same
end
end Fm
namespace Fm
open PySem PySem.Spec PyProof.Rows L2
open Fc (Bytes Use Val Piece uses formatIn spelling)
structure TEx (K:PySem.W.Frag) (mg:Str→Option Value) (C:Cs):Prop where
 mN:mg "NoFormat"=some (.ref C.none_)
 mW:mg "WrongFormat"=some (.ref C.wf)
 mA:mg "WrongArguments"=some (.ref C.wa)
 mD:mg "NoDirective"=some (.ref C.nd)
 mM:mg "WrongAmount"=some (.ref C.wm)
 e11:PySem.W.exmOne K (.ref C.none_) (.ref C.none_)=some true
 e21:PySem.W.exmOne K (.ref C.wf) (.ref C.none_)=some false
 e22:PySem.W.exmOne K (.ref C.wf) (.ref C.wf)=some true
 e31:PySem.W.exmOne K (.ref C.wa) (.ref C.none_)=some false
 e32:PySem.W.exmOne K (.ref C.wa) (.ref C.wf)=some false
 e33:PySem.W.exmOne K (.ref C.wa) (.ref C.wa)=some true
 e41:PySem.W.exmOne K (.ref C.nd) (.ref C.none_)=some false
 e42:PySem.W.exmOne K (.ref C.nd) (.ref C.wf)=some false
 e43:PySem.W.exmOne K (.ref C.nd) (.ref C.wa)=some false
 e44:PySem.W.exmOne K (.ref C.nd) (.ref C.nd)=some true
 e51:PySem.W.exmOne K (.ref C.wm) (.ref C.none_)=some false
 e52:PySem.W.exmOne K (.ref C.wm) (.ref C.wf)=some false
 e53:PySem.W.exmOne K (.ref C.wm) (.ref C.wa)=some false
 e54:PySem.W.exmOne K (.ref C.wm) (.ref C.nd)=some false
 e55:PySem.W.exmOne K (.ref C.wm) (.ref C.wm)=some true
 get:ExcGet K C.wf "place"
def AnsF (P:Program) (w:World) (K:PySem.W.Frag) (mg:Str→Option Value) (base:Heap) (C:Cs) (p:Int) (f:Addr):Prop:=∃fd,FnOk P w K mg base (CXe P w) 11 f fd ["desk","reader"] (spAns K C p)∧PySem.W.keepIn K (.ref f)=true∧Binds K fd ["desk","reader"] []
structure TAn (P:Program) (w:World) (K:PySem.W.Frag) (mg:Str→Option Value) (base:Heap) (C:Cs) (f1 f2 f3 f4 f5 f6 f7 f8 f9:Addr):Prop where
 dict:GD P w K mg "ANSWERERS" [(.inl 1,.ref f1),(.inl 2,.ref f2),(.inl 3,.ref f3),(.inl 4,.ref f4),(.inl 5,.ref f5),(.inl 6,.ref f6),(.inl 7,.ref f7),(.inl 8,.ref f8),(.inl 9,.ref f9)]
 a1:AnsF P w K mg base C 1 f1
 a2:AnsF P w K mg base C 2 f2
 a3:AnsF P w K mg base C 3 f3
 a4:AnsF P w K mg base C 4 f4
 a5:AnsF P w K mg base C 5 f5
 a6:AnsF P w K mg base C 6 f6
 a7:AnsF P w K mg base C 7 f7
 a8:AnsF P w K mg base C 8 f8
 a9:AnsF P w K mg base C 9 f9
def spCall (K:PySem.W.Frag) (C:Cs):Sp:=fun vs H Q _=>∃(ad ar rl:Addr) (N:Addr→Prop) (s:FcCalls.State) (ns:List Int) (x:FcCalls.Call) (e t:List Int),Enc x e∧vs=[.ref ad,.ref ar]∧DeskAt C N H ad s∧CrOn K C.rd H ar rl ns (e++t)∧¬N ad∧¬N ar∧(∀y,H y=none→N y)∧
 (∀l H',H' l=some (.lst ((FormatNeutral.told (FcCalls.step s x).2).map V.int))→(FormatNeutral.told (FcCalls.step s x).2).length≤600000→H l=none→Aft K C N H H' ad ar rl ns t (FcCalls.step s x).1→Q (.ref l) H')
theorem step_ref {s:FcCalls.State} {x:FcCalls.Call} {l:List Int} (h:(FcCalls.step s x).2=.refused l):(FcCalls.step s x).1=s:=by
 cases x with
 | parse p=>
  revert h
  show ((match formatIn p with | .error k=>(s,FcCalls.Answer.refused [-1,(k:Int)]) | .ok l=>(some l,.done)):FcCalls.State×FcCalls.Answer).2=_→((match formatIn p with | .error k=>(s,FcCalls.Answer.refused [-1,(k:Int)]) | .ok l=>(some l,.done)):FcCalls.State×FcCalls.Answer).1=s
  cases formatIn p with
  | error k=>exact fun _=>rfl
  | ok m=>exact fun z=>by cases z
 | _=>rfl
section
variable {P:Program} {w:World} {K:PySem.W.Frag} {mg:Str→Option Value} {base:Heap} {C:Cs}
theorem ok_answer_call {f f1 f2 f3 f4 f5 f6 f7 f8 f9:Addr} {fd:FuncData} (F:Fun K "answer_call" "answer_call" s_answer_call f fd) (T:TEx K mg C) (A0:TAn P w K mg base C f1 f2 f3 f4 f5 f6 f7 f8 f9) (cT:CalM P w K mg base CX0 C.rd "take" ["self"] 1 (spCrTake K C.rd)):
 FnOk P w K mg base CX0 12 f fd ["desk","reader"] (spCall K C):=by
 refine F.ok sc_answer_call (fun vs H Q E h=>?_) (fun cdv A outer s H vs Q E hr h=>?_)
 ·obtain ⟨ad,ar,rl,N,st,ns,x,e,t,_,rfl,_⟩:=h
  rfl
 ·obtain ⟨ad,ar,rl,N,st,ns,x,e,t,en,rfl,hd,hc,nad,nar,hN,qo⟩:=h
  have hr1:Room 1 _:=hr.mono (by decide)
  refine ⟨_,pss_cons (ps_set (i:=2) sc_answer_call.nd rfl (Or.inl rfl) (pe_gdget A0.dict (pe_calm0 (pv 1) cT hr1 pass0)))
   (pss_one (ps_try (tb:=fun E=>tRet (tCallV P w K mg base (CXe P w) 11 E 2 (tCons (tVar 0) (tCons (tVar 1) tNil)))) (fun pn xe E T'=>pss_one (ps_ret (pe_callv 2 hr T'.passes (pa_cons (pv 0) (pa_cons (pv 1) pa_nil)))))
    (ph_cons rfl T.mN (ts:=tRet (tLst (tCons (tUn (rU fun i=>.int (-i)) (tC (.int 9))) tNil))) (fun e=>pss_one (ps_ret (pe_lst (pa_cons (pe_un un_neg pe_int) pa_nil))))
    (ph_consAs (i:=3) rfl T.mW sc_answer_call.nd rfl rfl (ts:=tRet (tLst (tCons (tUn (rU fun i=>.int (-i)) (tC (.int 1))) (tCons (tExcFld K (tVar 3) "place") tNil)))) (fun e=>pss_one (ps_ret (pe_lst (pa_cons (pe_un un_neg pe_int) (pa_cons (pe_excfld (pv 3) rfl) pa_nil)))))
    (ph_cons rfl T.mA (ts:=tRet (tLst (tCons (tUn (rU fun i=>.int (-i)) (tC (.int 1))) tNil))) (fun e=>pss_one (ps_ret (pe_lst (pa_cons (pe_un un_neg pe_int) pa_nil))))
    (ph_cons rfl T.mD (ts:=tRet (tLst (tCons (tUn (rU fun i=>.int (-i)) (tC (.int 2))) tNil))) (fun e=>pss_one (ps_ret (pe_lst (pa_cons (pe_un un_neg pe_int) pa_nil))))
    (ph_cons rfl T.mM (ts:=tRet (tLst (tCons (tUn (rU fun i=>.int (-i)) (tC (.int 3))) tNil))) (fun e=>pss_one (ps_ret (pe_lst (pa_cons (pe_un un_neg pe_int) pa_nil)))) ph_never))))))),?_⟩
  obtain ⟨p,e',rfl⟩:∃p e',e=p::e':=by cases en<;>exact ⟨_,_,rfl⟩
  obtain ⟨fp,hv,fdp,Fp,hkp,hbp⟩:∃fp,valV [((.inl 1:Key),V.ref f1),(.inl 2,.ref f2),(.inl 3,.ref f3),(.inl 4,.ref f4),(.inl 5,.ref f5),(.inl 6,.ref f6),(.inl 7,.ref f7),(.inl 8,.ref f8),(.inl 9,.ref f9)] (.inl p)=some (.ref fp)∧AnsF P w K mg base C p fp:=by
   cases en
   ·exact ⟨f1,rfl,A0.a1⟩
   ·exact ⟨f2,rfl,A0.a2⟩
   ·exact ⟨f3,rfl,A0.a3⟩
   ·exact ⟨f4,rfl,A0.a4⟩
   ·exact ⟨f5,rfl,A0.a5⟩
   ·exact ⟨f6,rfl,A0.a6⟩
   ·exact ⟨f7,rfl,A0.a7⟩
   ·exact ⟨f8,rfl,A0.a8⟩
   ·exact ⟨f9,rfl,A0.a9⟩
  obtain ⟨_,_,dxr,hra,_⟩:=id hc
  refine ⟨_,rfl,ar,dxr,_,rfl,hra,rfl,ar,rl,ns,p,e'++t,rfl,hc,fun H1 hc1 b1=>?_⟩
  have hd1:=hd.but hc nar b1
  have comp:∀{H':Hp} {s':FcCalls.State},Aft K C N H1 H' ad ar rl ns t s'→Aft K C N H H' ad ar rl ns t s':=fun {H' s'} a=>⟨a.desk,a.cr,fun b o hb h1 h2=>a.fr b o (b1 b o hb h2) h1 h2⟩
  refine ⟨.inl p,.ref fp,rfl,hv,?_⟩
  refine ⟨fp,fdp,_,_,rfl,Fp,hkp,hbp,_,rfl,_,rfl,ad,ar,rl,N,st,ns,x,e',t,en,rfl,hd1,hc1,nad,nar,fun y hy=>hN y (free_but hc b1 hc1 hy),fun l hl cls dx H2 ex af ee hee=>?_,fun l H2 nr hl hlen nl af=>qo l H2 hl hlen (free_but hc b1 hc1 nl) (comp af)⟩
  have est:=step_ref hl
  rw [hl,est] at qo
  have fin:∀{zs:List Int} {p2:Addr},l=zs→zs.length≤2→H2 p2=none→Q (.ref p2) (upd H2 p2 (.lst (zs.map V.int))):=fun {zs p2} ez hz np=>by
   subst ez
   have af2:=comp af
   have nH:H p2=none:=by
    cases hx:H p2 with
    | none=>rfl
    | some o=>
     by_cases z1:p2=ad
     ·obtain ⟨d0,v0,h0⟩:=af2.desk.obj
      rw [z1,h0] at np;cases np
     ·by_cases z2:p2=ar
      ·obtain ⟨_,_,_,h0,_⟩:=af2.cr
       rw [z2,h0] at np;cases np
      ·rw [af2.fr p2 o hx z1 z2] at np;cases np
   refine qo p2 _ upd_same (by show l.length≤600000;omega) nH ⟨af2.desk.same (same_new np),CrOn.same af2.cr (same_new np),fun b o hb h1 h2=>same_new np _ _ (af2.fr b o hb h1 h2)⟩
  rcases ex with ⟨el,rfl,rfl⟩ | ⟨kk,d,el,rfl,rfl,hxd⟩ | ⟨el,rfl,rfl⟩ | ⟨el,rfl,rfl⟩ | ⟨el,rfl,rfl⟩
  ·exact ⟨true,T.e11,iteT ⟨_,rfl,(by show 1≤sizeLine;decide),fun p2 np=>fin el (by show 1≤2;decide) np⟩⟩
  ·exact ⟨false,T.e21,iteF ⟨true,T.e22,iteT ⟨_,rfl,_,rfl,ee,C.wf,d,_,_,rfl,hee,hxd,T.get,rfl,(by show 2≤sizeLine;decide),fun p2 np=>fin el (by show 2≤2;decide) np⟩⟩⟩
  ·exact ⟨false,T.e31,iteF ⟨false,T.e32,iteF ⟨true,T.e33,iteT ⟨_,rfl,(by show 1≤sizeLine;decide),fun p2 np=>fin el (by show 1≤2;decide) np⟩⟩⟩⟩
  ·exact ⟨false,T.e41,iteF ⟨false,T.e42,iteF ⟨false,T.e43,iteF ⟨true,T.e44,iteT ⟨_,rfl,(by show 1≤sizeLine;decide),fun p2 np=>fin el (by show 1≤2;decide) np⟩⟩⟩⟩⟩
  ·exact ⟨false,T.e51,iteF ⟨false,T.e52,iteF ⟨false,T.e53,iteF ⟨false,T.e54,iteF ⟨true,T.e55,iteT ⟨_,rfl,(by show 1≤sizeLine;decide),fun p2 np=>fin el (by show 1≤2;decide) np⟩⟩⟩⟩⟩⟩
def spAnswers (K:PySem.W.Frag):Sp:=fun vs H Q _=>∃(cl:Addr) (ns out:List Int),vs=[.ref cl]∧SqL K H cl (ns.map V.int)∧Due FcCalls.start ns out 16∧∀l H',H' l=some (.lst (out.map V.int))→Same H H'→Q (.ref l) H'
theorem told_line {n:Nat} (h:n≤9600016):n≤sizeLine:=Nat.le_trans h (by decide)
theorem ok_answers {f:Addr} {fd:FuncData} (F:Fun K "answers" "answers" s_answers f fd) (T:TDk K mg C) (cDk:CalC P w K mg base C.desk "Desk" ["self"] 1 (spDkInit C)) (cCr:CalC P w K mg base C.rd "CallReader" ["self","numbers"] 1 (spCrInit C.rd)) (cEnd:CalM P w K mg base CX0 C.rd "at_end" ["self"] 1 (spCrEnd K C.rd))
 (cCall:Cal P w K mg base CX0 "answer_call" ["desk","reader"] 12 (spCall K C)):FnOk P w K mg base CX0 13 f fd ["calls"] (spAnswers K):=by
 refine F.ok sc_answers (fun vs H Q E h=>?_) (fun cdv A outer s H vs Q E hr h=>?_)
 ·obtain ⟨cl,ns,out,rfl,_⟩:=h
  rfl
 ·obtain ⟨cl,ns,out,rfl,hs,due,q⟩:=h
  have hr1:Room 1 _:=hr.mono (by decide)
  have hr2:Room 2 _:=hr.mono (by decide)
  refine ⟨_,pss_cons (ps_set (i:=1) sc_answers.nd rfl (Or.inl rfl) (pe_calc0 cDk hr2))
   (pss_cons (ps_set (i:=2) sc_answers.nd rfl (Or.inl rfl) (pe_calc cCr hr2 (pa_cons (pv 0) pa_nil)))
   (pss_cons (ps_set (i:=3) sc_answers.nd rfl (Or.inl rfl) (pe_lst pa_nil))
   (pss_cons (ps_while PassesOwn.never (pt_not (pt_val (pe_calm0 (pv 2) cEnd hr1 pass0)))
    (pss_cons (ps_set (i:=4) sc_answers.nd rfl (Or.inl rfl) (pe_cal cCall hr pass0 (pa_cons (pv 1) (pa_cons (pv 2) pa_nil))))
    (pss_cons (ps_expr (pe_bm PySem.F.plainAttrs_list PySem.F.slot_list_append PySem.F.type_list_append mt_append (pv 3) (pa_cons (pe_callB call_len_seq (by rfl) T.len PySem.boot_len (pa_cons (pv 4) pa_nil)) pa_nil)))
    (pss_one (ps_expr (pe_bm PySem.F.plainAttrs_list PySem.F.slot_list_extend PySem.F.type_list_extend mt_extend (pv 3) (pa_cons (pv 4) pa_nil)))))))
   (pss_one (ps_ret (pv 3)))))),?_⟩
  intro ad dxd na nd nad
  refine ⟨ad,dxd,rfl,upd_same,fun dd H1 had1 b1=>⟨rfl,?_⟩⟩
  have s1:Same H H1:=amNew na nd b1
  refine ⟨_,rfl,fun ar dxr nar ndr nard=>⟨ar,dxr,cl,rfl,upd_same,fun H2 hcr b2=>⟨rfl,?_⟩⟩⟩
  have s2:Same H1 H2:=amNew nar ndr b2
  obtain ⟨dxr2,har2⟩:=hcr
  refine ⟨Nat.zero_le _,fun tl ntl=>?_⟩
  have s3:Same H2 (upd H2 tl (.lst [])):=same_new ntl
  generalize hH3:upd H2 tl (.lst [])=H3 at s3
  have htl3:H3 tl=some (.lst []):=by rw [←hH3,upd_same]
  have had3:=s3 _ _ (s2 _ _ had1)
  have har3:=s3 _ _ har2
  have S3:Same H H3:=Same.trans s1 (Same.trans s2 s3)
  have tad:tl≠ad:=ne_of htl3 had3 (by intro z;cases z)
  have tar:tl≠ar:=ne_of htl3 har3 (by intro z;cases z)
  have Hta:H ad=none:=na
  have Htr:H ar=none:=Same.free' s1 nar
  have Htt:H tl=none:=Same.free' s1 (Same.free' s2 ntl)
  refine ⟨fun m σ H'=>∃(st:FcCalls.State) (r acc out':List Int) (k:Nat) (v:Option V),m=r.length∧σ=[some (.ref cl),some (.ref ad),some (.ref ar),some (.ref tl),v]∧DeskAt C (fun y=>H3 y=none) H' ad st∧CrOn K C.rd H' ar cl ns r∧H' tl=some (.lst (acc.map V.int))∧Due st r out' k∧out=acc++out'∧
   (∀y,H' y=none→H3 y=none)∧Same H H'∧acc.length + k * 600001≤9600016,⟨_,FcCalls.start,ns,[],out,16,none,rfl,rfl,⟨dd,had3⟩,⟨SqL.same hs S3,0,dxr2,har3,Nat.zero_le _,rfl⟩,htl3,due,rfl,fun y h=>h,S3,by decide⟩,?_⟩
  rintro m σ H4 ⟨st,r,acc,out',k,v,rfl,rfl,hd4,hc4,htl4,due4,eo,hN4,S4,hlen⟩
  obtain ⟨_,_,dx4,har4,_⟩:=id hc4
  refine ⟨_,rfl,ar,dx4,_,rfl,har4,rfl,ar,cl,ns,r,rfl,hc4,_,rfl,?_⟩
  cases r with
  | nil=>
   refine iteF ⟨_,rfl,q tl H4 ?_ S4⟩
   rw [eo,due_nil due4,List.append_nil]
   exact htl4
  | cons p r=>
   refine iteT ⟨_,fun σ' H' h=>h,?_⟩
   obtain ⟨x,e,t,out2,k2,en,esp,rfl,due5,rfl⟩:=due_cons due4
   have hc5:CrOn K C.rd H4 ar cl ns (e++t):=by rw [←esp];exact hc4
   refine ⟨_,rfl,_,rfl,ad,ar,cl,_,st,ns,x,e,t,en,rfl,hd4,hc5,(by rw [had3];simp),(by rw [har3];simp),hN4,fun l H5 hl5 hl6 nl5 af=>?_⟩
   have htl5:=af.fr _ _ htl4 tad tar
   have tll:tl≠l:=ne_of_none htl4 nl5
   have hlt:(FormatNeutral.told (FcCalls.step st x).2).length=((FormatNeutral.told (FcCalls.step st x).2).map V.int).length:=(List.length_map _).symm
   refine ⟨_,rfl,.inl ⟨rfl,_,SqL.of htl5⟩,_,rfl,l,_,rfl,.inl (SqL.of hl5),tl,_,_,rfl,rfl,htl5,?_,?_⟩
   ·exact Nat.lt_of_lt_of_le (by rw [List.length_map];omega:_ < 9600017) (by decide)
   refine ⟨_,rfl,.inl ⟨rfl,_,SqL.of upd_same⟩,_,rfl,tl,l,_,_,rfl,rfl,upd_same,(by rw [upd_ne tll.symm];exact hl5),told_line ?_,?_⟩
   ·rw [List.length_append,List.length_map,List.length_map]
    show acc.length + 1 + _≤_
    omega
   have etl:e.length + t.length=r.length + 1:=by
    have:=congrArg List.length esp
    rw [List.length_append,List.length_cons] at this
    omega
   have epos:1≤e.length:=by cases en<;>simp
   generalize hH6:upd (upd H5 tl _) tl _=H6
   have b6:But tl H5 H6:=fun b o hb hn=>by rw [←hH6,upd_ne hn,upd_ne hn];exact hb
   have htl6:H6 tl=some (.lst ((acc++((FormatNeutral.told (FcCalls.step st x).2).length:Int)::FormatNeutral.told (FcCalls.step st x).2).map V.int)):=by
    rw [←hH6,upd_same]
    rw [List.map_append,List.map_cons,List.length_map]
    simp
   have nT:¬(fun y=>H3 y=none) tl:=fun z=>by
    have z:H3 tl=none:=z
    rw [htl3] at z;cases z
   obtain ⟨dx6,v6,had6⟩:=af.desk.obj
   refine ⟨t.length,by rw [List.length_cons];omega,(FcCalls.step st x).1,t,acc++((FormatNeutral.told (FcCalls.step st x).2).length:Int)::FormatNeutral.told (FcCalls.step st x).2,out2,k2,some (.ref l),rfl,rfl,?_,?_,htl6,due5,?_,?_,?_,?_⟩
   ·exact af.desk.keep (But.keep b6 nT) fun o ho=>b6 _ _ ho tad.symm
   ·obtain ⟨q1,q2,q3,q4,q5,q6⟩:=af.cr
    refine ⟨?_,q2,q3,b6 _ _ q4 tar.symm,q5,q6⟩
    have:SqL K H6 cl (ns.map V.int):=by
     have hsx:Same H H6:=fun b o hb=>by
      have h1:b≠ad:=ne_of_none hb Hta
      have h2:b≠ar:=ne_of_none hb Htr
      have h3:b≠tl:=ne_of_none hb Htt
      exact b6 _ _ (af.fr _ _ (S4 _ _ hb) h1 h2) h3
     exact SqL.same hs hsx
    exact this
   ·rw [eo,List.append_assoc];rfl
   ·intro y hy
    by_cases z1:y=tl
    ·rw [z1,htl6] at hy;cases hy
    ·have h5:H5 y=none:=b6.free hy (Ne.symm z1)
     by_cases z2:y=ad
     ·rw [z2,had6] at h5;cases h5
     ·by_cases z3:y=ar
      ·obtain ⟨_,_,_,q4,_⟩:=af.cr
       rw [z3,q4] at h5;cases h5
      ·refine hN4 y ?_
       cases hx:H4 y with
       | none=>rfl
       | some o=>rw [af.fr y o hx z2 z3] at h5;cases h5
   ·intro b o hb
    exact b6 _ _ (af.fr _ _ (S4 _ _ hb) (ne_of_none hb Hta) (ne_of_none hb Htr)) (ne_of_none hb Htt)
   ·rw [List.length_append,List.length_cons]
    omega
end
end Fm
namespace Fm
open PySem PySem.Spec PyProof.Rows L2
structure DefAt (K:PySem.W.Frag) (x:Str) (st:Stmt) (f:Addr):Prop where
 ns:PySem.W.nsIn K mainGlobals x=some (some (.ref f))
 kp:PySem.W.keepIn K (.ref f)=true
 fn:∃fd,Fun K x x st f fd
theorem def_at {K:PySem.W.Frag} {x:Str} {st:Stmt} {f:Addr} {oc:Value} {od an:Option Addr} {osl:Array (Option Value)} {kV doc pm cdv ct:Value} (a:PySem.W.nsIn K mainGlobals x=some (some (.ref f))) (l:K.lookup f=some ⟨oc,od,.func (PySem.W.fnOf x x (defArgs st) (defBody st) (defScope st) .none kV doc pm an cdv ct),osl⟩)
 (c:PySem.W.codeIn K cdv x=true) (k:PySem.W.keepIn K (.ref f)=true):DefAt K x st f:=⟨a,k,_,fun_mk l c k⟩
structure MethAt (K:PySem.W.Frag) (C:Addr) (m qual:Str) (st:Stmt) (f:Addr):Prop where
 at_:PySem.W.findIn K (.ref C) m=some (some (.ref f))
 is:PySem.W.isFn K (.ref f)=true
 kp:PySem.W.keepIn K (.ref f)=true
 fn:∃fd,Fun K m qual st f fd
theorem meth_at {K:PySem.W.Frag} {C:Addr} {m qual:Str} {st:Stmt} {f:Addr} {oc:Value} {od an:Option Addr} {osl:Array (Option Value)} {kV doc pm cdv ct:Value} (a:PySem.W.findIn K (.ref C) m=some (some (.ref f))) (i:PySem.W.isFn K (.ref f)=true) (l:K.lookup f=some ⟨oc,od,.func (PySem.W.fnOf m qual (defArgs st) (defBody st) (defScope st) .none kV doc pm an cdv ct),osl⟩)
 (c:PySem.W.codeIn K cdv qual=true) (k:PySem.W.keepIn K (.ref f)=true):MethAt K C m qual st f:=⟨a,i,k,_,fun_mk l c k⟩
structure ClaAt (K:PySem.W.Frag) (x:Str) (C:Addr):Prop where
 ns:PySem.W.nsIn K mainGlobals x=some (some (.ref C))
 cl:Cls K C
 makes:PySem.W.makesIn K C=true
 kp:PySem.W.keepIn K (.ref C)=true
theorem cls_at {K:PySem.W.Frag} {x:Str} {C:Addr} (a:PySem.W.nsIn K mainGlobals x=some (some (.ref C))) (pg:PySem.W.plainGet K C Str.empty=true) (hd:PySem.W.hasDictIn K C=true) (po:PySem.W.plainOver K C=true) (sa:PySem.W.findIn K (.ref C) "__setattr__"=some (some (.builtin "object.__setattr__"))) (mk:PySem.W.makesIn K C=true)
 (kc:PySem.W.keepIn K (.ref C)=true):ClaAt K x C:=⟨a,⟨pg,hd,po,sa⟩,mk,kc⟩
structure XcAt (K:PySem.W.Frag) (x:Str) (C:Addr):Prop where
 ns:PySem.W.nsIn K mainGlobals x=some (some (.ref C))
 exc:excIn K C=true
 kp:PySem.W.keepIn K (.ref C)=true
 isC:PySem.W.isClsIn K C=true
 ty:PySem.W.typeIn K (.ref C)=some (.type "type")
 sb:PySem.W.subIn K (.ref C) (.type "BaseException")=some true
def XInit (K:PySem.W.Frag) (C f:Addr):Prop:=PySem.W.ownIn K "__init__" (.ref C)=some (some (.ref f))
section
variable {P:Program} {w:World} {K:PySem.W.Frag} {h base:Heap} {mg:Str→Option Value} {x qual m:Str} {C f:Addr} {st:Stmt} {CX:CXT} {k:Nat} {ps:List Str} {sp:Sp}
theorem DefAt.cal (D:DefAt K x st f) (X:K.In h) (G:h.Ns mainGlobals mg) (ok:∀fd,Fun K x x st f fd→FnOk P w K mg base CX k f fd ps sp) (b:∀fd,Fun K x x st f fd→Binds K fd ps []):Cal P w K mg base CX x ps k sp:=
 let ⟨fd,F⟩:=D.fn;⟨f,fd,ok fd F,PySem.W.mg_of X G D.ns,D.kp,b fd F⟩
theorem DefAt.ans {C:Cs} {p:Int} (D:DefAt K x st f) (ok:∀fd,Fun K x x st f fd→FnOk P w K mg base (CXe P w) 11 f fd ["desk","reader"] (spAns K C p)) (b:∀fd,Fun K x x st f fd→Binds K fd ["desk","reader"] []):AnsF P w K mg base C p f:=
 let ⟨fd,F⟩:=D.fn;⟨fd,ok fd F,D.kp,b fd F⟩
theorem MethAt.cal (D:MethAt K C m qual st f) (c:Cls K C) (ok:∀fd,Fun K m qual st f fd→FnOk P w K mg base CX k f fd ps sp) (b:∀fd,Fun K m qual st f fd→Binds K fd ps []):CalM P w K mg base CX C m ps k sp:=
 let ⟨fd,F⟩:=D.fn;⟨f,fd,ok fd F,c,⟨D.at_,D.is,D.kp⟩,b fd F⟩
theorem ClaAt.calc (D:ClaAt K x C) (X:K.In h) (G:h.Ns mainGlobals mg) (M:MethAt K C "__init__" qual st f) (c:CalM P w K mg base CX0 C "__init__" ps k sp):CalC P w K mg base C x ps k sp:=by
 obtain ⟨f',fd,F,_,hm,hb⟩:=c
 exact ⟨f',fd,F,⟨D.makes,hm.at_,hm.fn,D.kp⟩,PySem.W.mg_of X G D.ns,hb⟩
theorem XcAt.cal0 (D:XcAt K x C) (X:K.In h) (G:h.Ns mainGlobals mg) (o:PySem.W.ownIn K "__init__" (.ref C)=some none):CalX0 K mg C x:=⟨PySem.W.mg_of X G D.ns,D.exc,D.kp,o⟩
theorem XcAt.exm {cls:Value} {b:Bool} (D:XcAt K x C) (h:PySem.W.subIn K cls (.ref C)=some b):PySem.W.exmOne K cls (.ref C)=some b:=exm_mk D.isC D.ty D.sb h
theorem XcAt.calx {fl:Str} (D:XcAt K x C) (X:K.In h) (G:h.Ns mainGlobals mg) (M:MethAt K C "__init__" qual st f) (o:XInit K C f) (ok:∀fd,Fun K "__init__" qual st f fd→FnOk P w K mg base CX0 k f fd ["self","place"] (spExcInit C fl)) (b:∀fd,Fun K "__init__" qual st f fd→Binds K fd ["self","place"] []):
 CalX P w K mg base C x k fl:=let ⟨fd,F⟩:=M.fn;⟨f,fd,_,ok fd F,by decide,b fd F,PySem.W.mg_of X G D.ns,D.exc,D.kp,o,M.is⟩
end
theorem _root_.L2.Fun.bindsTo {K:PySem.W.Frag} {x qual:Str} {st:Stmt} {f:Addr} {fd:FuncData} {ps:List Str} (F:Fun K x qual st f fd)
 (h:∀(kV doc pm:Value) (an:Option Addr) (cdv ct:Value) (us:List Value),us.length=ps.length→bindArgs (PySem.W.fnOf x qual (defArgs st) (defBody st) (defScope st) .none kV doc pm an cdv ct) ⟨us,[]⟩=pure (ps.zip us)) (s:Shared) (us:List Value) (hu:us.length=ps.length):BindsTo s fd ⟨us,[]⟩ (ps.zip us):=by
 obtain ⟨oc,od,kV,doc,pm,an,cdv,ct,osl,rfl,lk,hcd⟩:=F.ex
 exact .of_eq (h kV doc pm an cdv ct us hu)
theorem all_mk {P:Program} {w:World} {K:PySem.W.Frag} {h:Heap} {mg:Str→Option Value} {fa ca cd cs cf cg ce ck cr xn xw xa xd xm f_Amount_init f_Directive_init f_Scanner_init f_Scanner_peek f_Scanner_take f_Format_init f_Format_highest_argument f_Format_kind_of f_Format_directive_at f_Argument_init f_Field_init f_Desk_init f_Desk_held f_CallReader_init f_CallReader_at_end f_CallReader_take f_CallReader_take_row f_WrongFormat_init f_own_kind f_taken_pairs f_stars f_is_right f_sign_flags_fit f_zero_fits f_hash_fits f_precision_fits f_length_fits f_stars_fit f_is_digit f_scan_number f_scan_argument f_argument_is_next f_scan_flags f_scan_star f_scan_written f_scan_width f_scan_precision f_scan_length f_scan_conversion f_scan_directive f_read_format f_read_directive f_add_directive f_fits_in f_number_in_order f_least_difference f_first_misuse f_first_not_taken f_unsigned_number f_signed_number f_digit_sign f_digits_of f_read_arguments f_check_arguments f_asked_amount f_render f_plain_bytes f_field_of f_asked_precision f_shown_text f_signed_field f_sign_of f_unsigned_field f_widened f_answer_parse f_answer_write f_answer_count f_answer_highest f_answer_kind f_answer_directive f_answer_check f_answer_same f_answer_render f_answer_call f_answers:Addr} (KX:K.In h) (G:h.Ns mainGlobals mg) (hfa:mg "answers"=some (.ref fa))
 (k_Amount:ClaAt K "Amount" ca)
 (n_ca_present:NoAttr K ca "present")
 (n_ca_star:NoAttr K ca "star")
 (n_ca_number:NoAttr K ca "number")
 (n_ca_argument:NoAttr K ca "argument")
 (k_Directive:ClaAt K "Directive" cd)
 (n_cd_place:NoAttr K cd "place")
 (n_cd_size:NoAttr K cd "size")
 (n_cd_by_number:NoAttr K cd "by_number")
 (n_cd_argument:NoAttr K cd "argument")
 (n_cd_flags:NoAttr K cd "flags")
 (n_cd_width:NoAttr K cd "width")
 (n_cd_precision:NoAttr K cd "precision")
 (n_cd_length:NoAttr K cd "length")
 (n_cd_conversion:NoAttr K cd "conversion")
 (k_Scanner:ClaAt K "Scanner" cs)
 (n_cs_row:NoAttr K cs "row")
 (n_cs_place:NoAttr K cs "place")
 (n_cs_at:NoAttr K cs "at")
 (k_Format:ClaAt K "Format" cf)
 (n_cf_row:NoAttr K cf "row")
 (n_cf_directives:NoAttr K cf "directives")
 (n_cf_kinds:NoAttr K cf "kinds")
 (k_Argument:ClaAt K "Argument" cg)
 (n_cg_kind:NoAttr K cg "kind")
 (n_cg_size:NoAttr K cg "size")
 (n_cg_value:NoAttr K cg "value")
 (k_Field:ClaAt K "Field" ce)
 (n_ce_before:NoAttr K ce "before")
 (n_ce_body:NoAttr K ce "body")
 (k_Desk:ClaAt K "Desk" ck)
 (n_ck_current:NoAttr K ck "current")
 (k_CallReader:ClaAt K "CallReader" cr)
 (n_cr_numbers:NoAttr K cr "numbers")
 (n_cr_at:NoAttr K cr "at")
 (m_Amount_init:MethAt K ca "__init__" "Amount.__init__" s_Amount_init f_Amount_init)
 (m_Directive_init:MethAt K cd "__init__" "Directive.__init__" s_Directive_init f_Directive_init)
 (m_Scanner_init:MethAt K cs "__init__" "Scanner.__init__" s_Scanner_init f_Scanner_init)
 (m_Scanner_peek:MethAt K cs "peek" "Scanner.peek" s_Scanner_peek f_Scanner_peek)
 (m_Scanner_take:MethAt K cs "take" "Scanner.take" s_Scanner_take f_Scanner_take)
 (m_Format_init:MethAt K cf "__init__" "Format.__init__" s_Format_init f_Format_init)
 (m_Format_highest_argument:MethAt K cf "highest_argument" "Format.highest_argument" s_Format_highest_argument f_Format_highest_argument)
 (m_Format_kind_of:MethAt K cf "kind_of" "Format.kind_of" s_Format_kind_of f_Format_kind_of)
 (m_Format_directive_at:MethAt K cf "directive_at" "Format.directive_at" s_Format_directive_at f_Format_directive_at)
 (m_Argument_init:MethAt K cg "__init__" "Argument.__init__" s_Argument_init f_Argument_init)
 (m_Field_init:MethAt K ce "__init__" "Field.__init__" s_Field_init f_Field_init)
 (m_Desk_init:MethAt K ck "__init__" "Desk.__init__" s_Desk_init f_Desk_init)
 (m_Desk_held:MethAt K ck "held" "Desk.held" s_Desk_held f_Desk_held)
 (m_CallReader_init:MethAt K cr "__init__" "CallReader.__init__" s_CallReader_init f_CallReader_init)
 (m_CallReader_at_end:MethAt K cr "at_end" "CallReader.at_end" s_CallReader_at_end f_CallReader_at_end)
 (m_CallReader_take:MethAt K cr "take" "CallReader.take" s_CallReader_take f_CallReader_take)
 (m_CallReader_take_row:MethAt K cr "take_row" "CallReader.take_row" s_CallReader_take_row f_CallReader_take_row)
 (d_own_kind:DefAt K "own_kind" s_own_kind f_own_kind)
 (d_taken_pairs:DefAt K "taken_pairs" s_taken_pairs f_taken_pairs)
 (d_stars:DefAt K "stars" s_stars f_stars)
 (d_is_right:DefAt K "is_right" s_is_right f_is_right)
 (d_sign_flags_fit:DefAt K "sign_flags_fit" s_sign_flags_fit f_sign_flags_fit)
 (d_zero_fits:DefAt K "zero_fits" s_zero_fits f_zero_fits)
 (d_hash_fits:DefAt K "hash_fits" s_hash_fits f_hash_fits)
 (d_precision_fits:DefAt K "precision_fits" s_precision_fits f_precision_fits)
 (d_length_fits:DefAt K "length_fits" s_length_fits f_length_fits)
 (d_stars_fit:DefAt K "stars_fit" s_stars_fit f_stars_fit)
 (d_is_digit:DefAt K "is_digit" s_is_digit f_is_digit)
 (d_scan_number:DefAt K "scan_number" s_scan_number f_scan_number)
 (d_scan_argument:DefAt K "scan_argument" s_scan_argument f_scan_argument)
 (d_argument_is_next:DefAt K "argument_is_next" s_argument_is_next f_argument_is_next)
 (d_scan_flags:DefAt K "scan_flags" s_scan_flags f_scan_flags)
 (d_scan_star:DefAt K "scan_star" s_scan_star f_scan_star)
 (d_scan_written:DefAt K "scan_written" s_scan_written f_scan_written)
 (d_scan_width:DefAt K "scan_width" s_scan_width f_scan_width)
 (d_scan_precision:DefAt K "scan_precision" s_scan_precision f_scan_precision)
 (d_scan_length:DefAt K "scan_length" s_scan_length f_scan_length)
 (d_scan_conversion:DefAt K "scan_conversion" s_scan_conversion f_scan_conversion)
 (d_scan_directive:DefAt K "scan_directive" s_scan_directive f_scan_directive)
 (d_read_format:DefAt K "read_format" s_read_format f_read_format)
 (d_read_directive:DefAt K "read_directive" s_read_directive f_read_directive)
 (d_add_directive:DefAt K "add_directive" s_add_directive f_add_directive)
 (d_fits_in:DefAt K "fits_in" s_fits_in f_fits_in)
 (d_number_in_order:DefAt K "number_in_order" s_number_in_order f_number_in_order)
 (d_least_difference:DefAt K "least_difference" s_least_difference f_least_difference)
 (d_first_misuse:DefAt K "first_misuse" s_first_misuse f_first_misuse)
 (d_first_not_taken:DefAt K "first_not_taken" s_first_not_taken f_first_not_taken)
 (d_unsigned_number:DefAt K "unsigned_number" s_unsigned_number f_unsigned_number)
 (d_signed_number:DefAt K "signed_number" s_signed_number f_signed_number)
 (d_digit_sign:DefAt K "digit_sign" s_digit_sign f_digit_sign)
 (d_digits_of:DefAt K "digits_of" s_digits_of f_digits_of)
 (d_read_arguments:DefAt K "read_arguments" s_read_arguments f_read_arguments)
 (d_check_arguments:DefAt K "check_arguments" s_check_arguments f_check_arguments)
 (d_asked_amount:DefAt K "asked_amount" s_asked_amount f_asked_amount)
 (d_render:DefAt K "render" s_render f_render)
 (d_plain_bytes:DefAt K "plain_bytes" s_plain_bytes f_plain_bytes)
 (d_field_of:DefAt K "field_of" s_field_of f_field_of)
 (d_asked_precision:DefAt K "asked_precision" s_asked_precision f_asked_precision)
 (d_shown_text:DefAt K "shown_text" s_shown_text f_shown_text)
 (d_signed_field:DefAt K "signed_field" s_signed_field f_signed_field)
 (d_sign_of:DefAt K "sign_of" s_sign_of f_sign_of)
 (d_unsigned_field:DefAt K "unsigned_field" s_unsigned_field f_unsigned_field)
 (d_widened:DefAt K "widened" s_widened f_widened)
 (d_answer_parse:DefAt K "answer_parse" s_answer_parse f_answer_parse)
 (d_answer_write:DefAt K "answer_write" s_answer_write f_answer_write)
 (d_answer_count:DefAt K "answer_count" s_answer_count f_answer_count)
 (d_answer_highest:DefAt K "answer_highest" s_answer_highest f_answer_highest)
 (d_answer_kind:DefAt K "answer_kind" s_answer_kind f_answer_kind)
 (d_answer_directive:DefAt K "answer_directive" s_answer_directive f_answer_directive)
 (d_answer_check:DefAt K "answer_check" s_answer_check f_answer_check)
 (d_answer_same:DefAt K "answer_same" s_answer_same f_answer_same)
 (d_answer_render:DefAt K "answer_render" s_answer_render f_answer_render)
 (d_answer_call:DefAt K "answer_call" s_answer_call f_answer_call)
 (d_answers:DefAt K "answers" s_answers f_answers)
 (x_NoFormat:XcAt K "NoFormat" xn)
 (x_WrongFormat:XcAt K "WrongFormat" xw)
 (x_WrongArguments:XcAt K "WrongArguments" xa)
 (x_NoDirective:XcAt K "NoDirective" xd)
 (x_WrongAmount:XcAt K "WrongAmount" xm)
 (m_WrongFormat_init:MethAt K xw "__init__" "WrongFormat.__init__" s_WrongFormat_init f_WrongFormat_init)
 (o_WrongFormat:XInit K xw f_WrongFormat_init)
 (o_NoFormat:PySem.W.ownIn K "__init__" (.ref xn)=some none)
 (o_WrongArguments:PySem.W.ownIn K "__init__" (.ref xa)=some none)
 (o_NoDirective:PySem.W.ownIn K "__init__" (.ref xd)=some none)
 (o_WrongAmount:PySem.W.ownIn K "__init__" (.ref xm)=some none)
 (o_set:PySem.W.ownIn K "__setattr__" (.ref xw)=some none)
 (o_place:PySem.W.ownIn K "place" (.ref xw)=some none)
 (xget:ExcGet K xw "place")
 (s11:PySem.W.subIn K (.ref xn) (.ref xn)=some true)
 (s21:PySem.W.subIn K (.ref xw) (.ref xn)=some false)
 (s22:PySem.W.subIn K (.ref xw) (.ref xw)=some true)
 (s31:PySem.W.subIn K (.ref xa) (.ref xn)=some false)
 (s32:PySem.W.subIn K (.ref xa) (.ref xw)=some false)
 (s33:PySem.W.subIn K (.ref xa) (.ref xa)=some true)
 (s41:PySem.W.subIn K (.ref xd) (.ref xn)=some false)
 (s42:PySem.W.subIn K (.ref xd) (.ref xw)=some false)
 (s43:PySem.W.subIn K (.ref xd) (.ref xa)=some false)
 (s44:PySem.W.subIn K (.ref xd) (.ref xd)=some true)
 (s51:PySem.W.subIn K (.ref xm) (.ref xn)=some false)
 (s52:PySem.W.subIn K (.ref xm) (.ref xw)=some false)
 (s53:PySem.W.subIn K (.ref xm) (.ref xa)=some false)
 (s54:PySem.W.subIn K (.ref xm) (.ref xd)=some false)
 (s55:PySem.W.subIn K (.ref xm) (.ref xm)=some true)
 (gPERCENT:GI mg "PERCENT" 37)
 (gDOLLAR:GI mg "DOLLAR" 36)
 (gSTAR:GI mg "STAR" 42)
 (gPOINT:GI mg "POINT" 46)
 (gMINUS:GI mg "MINUS" 45)
 (gPLUS:GI mg "PLUS" 43)
 (gBLANK:GI mg "BLANK" 32)
 (gZERO:GI mg "ZERO" 48)
 (gHASH:GI mg "HASH" 35)
 (gNINE:GI mg "NINE" 57)
 (gLITTLE_A:GI mg "LITTLE_A" 97)
 (gBIG_A:GI mg "BIG_A" 65)
 (gLETTER_O:GI mg "LETTER_O" 111)
 (gLETTER_BIG_X:GI mg "LETTER_BIG_X" 88)
 (gLETTER_C:GI mg "LETTER_C" 99)
 (gLETTER_S:GI mg "LETTER_S" 115)
 (gSIGNED_32:GI mg "SIGNED_32" 1)
 (gUNSIGNED_32:GI mg "UNSIGNED_32" 2)
 (gSIGNED_64:GI mg "SIGNED_64" 3)
 (gUNSIGNED_64:GI mg "UNSIGNED_64" 4)
 (gTEXT:GI mg "TEXT" 5)
 (gHIGHEST_ARGUMENT:GI mg "HIGHEST_ARGUMENT" 16)
 (gHIGHEST_AMOUNT:GI mg "HIGHEST_AMOUNT" 999)
 (gEND:GI mg "END" 256)
 (gMOST_DIRECTIVES:GI mg "MOST_DIRECTIVES" 32)
 (gMISSING:GI mg "MISSING" 1)
 (gOTHER_KIND:GI mg "OTHER_KIND" 2)
 (gNOT_TAKEN:GI mg "NOT_TAKEN" 3)
 (gFLAGS:GT K mg "FLAGS" [.int 45,.int 43,.int 32,.int 48,.int 35])
 (gSIGNED:GT K mg "SIGNED" [.int 100,.int 105])
 (gUNSIGNED:GT K mg "UNSIGNED" [.int 117,.int 111,.int 120,.int 88])
 (gBASED:GT K mg "BASED" [.int 111,.int 120,.int 88])
 (gNUMERIC:GT K mg "NUMERIC" [.int 100,.int 105,.int 117,.int 111,.int 120,.int 88])
 (gCONVERSIONS:GT K mg "CONVERSIONS" [.int 100,.int 105,.int 117,.int 111,.int 120,.int 88,.int 99,.int 115])
 (gDOUBLED_LENGTHS:GT K mg "DOUBLED_LENGTHS" [.str "h",.str "l"])
 (gLONG_LENGTHS:GT K mg "LONG_LENGTHS" [.str "l",.str "ll",.str "j",.str "z"])
 (z_len:mg "len"=none)
 (z_list:mg "list"=none)
 (z_max:mg "max"=none)
 (z_min:mg "min"=none)
 (z_abs:mg "abs"=none)
 (z_range:mg "range"=none)
 (z_enumerate:mg "enumerate"=none)
 (z_reversed:mg "reversed"=none)
 (z_Exception:mg "Exception"=none)
 (gLENGTHS:GD P w K mg "LENGTHS" LK)
 (gBASES:GD P w K mg "BASES" BSK)
 (gSPANS:GD P w K mg "SPANS" SPK)
 (gANSWERERS:GD P w K mg "ANSWERERS" [(.inl 1,.ref f_answer_parse),(.inl 2,.ref f_answer_write),(.inl 3,.ref f_answer_count),(.inl 4,.ref f_answer_highest),(.inl 5,.ref f_answer_kind),(.inl 6,.ref f_answer_directive),(.inl 7,.ref f_answer_check),(.inl 8,.ref f_answer_same),(.inl 9,.ref f_answer_render)])
 :∃fd:FuncData,(∀(s:Shared) (us:List Value),us.length=(["calls"]:List Str).length→BindsTo s fd ⟨us,[]⟩ ((["calls"]:List Str).zip us))∧∀base:Heap,K.In base→base.Ns mainGlobals mg→FnOk P w K mg base CX0 13 fa fd ["calls"] (spAnswers K):=by
 have e0:=hfa.symm.trans (PySem.W.mg_of KX G d_answers.ns)
 cases e0
 let C:Cs:=⟨ck,cr,cf,cd,ca,xn,xw,xd,xa,xm⟩
 have tAm:TAm K ca:=⟨k_Amount.cl,n_ca_present,n_ca_star,n_ca_number,n_ca_argument⟩
 have tDr:TDr K cd:=⟨k_Directive.cl,n_cd_place,n_cd_size,n_cd_by_number,n_cd_argument,n_cd_flags,n_cd_width,n_cd_precision,n_cd_length,n_cd_conversion⟩
 have tSc:TSc K mg cs:=⟨k_Scanner.cl,n_cs_row,n_cs_place,n_cs_at,z_len,gEND,gZERO,gNINE⟩
 have tSd:TSd K mg:=⟨gDOLLAR,gSTAR,gPOINT,gHIGHEST_ARGUMENT,gHIGHEST_AMOUNT,gFLAGS,gCONVERSIONS,gDOUBLED_LENGTHS⟩
 have tKd:TKd K mg:=⟨gLETTER_S,gLONG_LENGTHS,gUNSIGNED,gSIGNED,gTEXT,gUNSIGNED_64,gUNSIGNED_32,gSIGNED_64,gSIGNED_32⟩
 have tRu:TRu K mg:=⟨gPLUS,gBLANK,gZERO,gMINUS,gHASH,gLETTER_C,gNUMERIC,gBASED⟩
 have tFm:TFm K mg cf:=⟨k_Format.cl,n_cf_row,n_cf_directives,n_cf_kinds,z_len,z_list,z_max,gMOST_DIRECTIVES⟩
 have tMs:TMs K mg:=⟨z_range,z_len,z_enumerate,gHIGHEST_ARGUMENT,gMISSING,gOTHER_KIND,gNOT_TAKEN⟩
 have tDg:TDg P w K mg:=⟨gSPANS,gBASES,gZERO,gBIG_A,gLITTLE_A,gLETTER_BIG_X,z_len,z_list,z_reversed⟩
 have tAg:TAg K mg cg:=⟨k_Argument.cl,n_cg_kind,n_cg_size,n_cg_value,z_len,z_range,gHIGHEST_AMOUNT,gTEXT⟩
 have tFd:TFd K mg ce:=⟨k_Field.cl,n_ce_before,n_ce_body,z_len,z_min,z_max,z_abs,gLETTER_O,gPERCENT⟩
 have tDk:TDk K mg C:=⟨k_Desk.cl,n_ck_current,z_len,z_list⟩
 have tCr:TCr K mg cr:=⟨k_CallReader.cl,n_cr_numbers,n_cr_at,z_len⟩
 have xNF:CalX0 K mg xn "NoFormat":=x_NoFormat.cal0 KX G o_NoFormat
 have xWA:CalX0 K mg xa "WrongArguments":=x_WrongArguments.cal0 KX G o_WrongArguments
 have xND:CalX0 K mg xd "NoDirective":=x_NoDirective.cal0 KX G o_NoDirective
 have xWM:CalX0 K mg xm "WrongAmount":=x_WrongAmount.cal0 KX G o_WrongAmount
 have tWf:TWf K mg xw:=⟨x_WrongFormat.exc,z_Exception,o_set,o_place⟩
 have tEx:TEx K mg C:=⟨PySem.W.mg_of KX G x_NoFormat.ns,PySem.W.mg_of KX G x_WrongFormat.ns,PySem.W.mg_of KX G x_WrongArguments.ns,PySem.W.mg_of KX G x_NoDirective.ns,PySem.W.mg_of KX G x_WrongAmount.ns,
  x_NoFormat.exm s11,x_NoFormat.exm s21,x_WrongFormat.exm s22,x_NoFormat.exm s31,x_WrongFormat.exm s32,x_WrongArguments.exm s33,x_NoFormat.exm s41,x_WrongFormat.exm s42,x_WrongArguments.exm s43,x_NoDirective.exm s44,x_NoFormat.exm s51,x_WrongFormat.exm s52,x_WrongArguments.exm s53,x_NoDirective.exm s54,x_WrongAmount.exm s55,xget⟩
 obtain ⟨fd0,F0⟩:=d_answers.fn
 refine ⟨fd0,fun s us hu=>?_,fun base _ _=>?_⟩
 ·have:=(F0.binds (ps:=["calls"]) fun _ _ _ _ _ _ us hl=>match us,hl with | [_],_=>rfl)
  exact F0.bindsTo (ps:=["calls"]) (fun _ _ _ _ _ _ us hl=>match us,hl with | [_],_=>rfl) s us hu
 have cWF:CalX P w K mg base xw "WrongFormat" 1 "place":=x_WrongFormat.calx KX G m_WrongFormat_init o_WrongFormat (fun fd F=>ok_WrongFormat_init F tWf) (fun fd F=>F.binds (ps:=["self","place"]) fun _ _ _ _ _ _ us hl=>match us,hl with | [_,_],_=>rfl)
 have c_Amount_init:CalM P w K mg base CX0 ca "__init__" ["self"] 1 (spAmInit ca):=m_Amount_init.cal k_Amount.cl (fun fd F=>ok_Amount_init F tAm) (fun fd F=>F.binds (ps:=["self"]) fun _ _ _ _ _ _ us hl=>match us,hl with | [_],_=>rfl)
 have c_Amount:CalC P w K mg base ca "Amount" ["self"] 1 (spAmInit ca):=k_Amount.calc KX G m_Amount_init c_Amount_init
 have c_Directive_init:CalM P w K mg base CX0 cd "__init__" ["self","place"] 3 (spDirInit cd):=m_Directive_init.cal k_Directive.cl (fun fd F=>ok_Directive_init F tDr c_Amount) (fun fd F=>F.binds (ps:=["self","place"]) fun _ _ _ _ _ _ us hl=>match us,hl with | [_,_],_=>rfl)
 have c_Directive:CalC P w K mg base cd "Directive" ["self","place"] 3 (spDirInit cd):=k_Directive.calc KX G m_Directive_init c_Directive_init
 have c_Scanner_init:CalM P w K mg base CX0 cs "__init__" ["self","row","place"] 1 (spScInit cs):=m_Scanner_init.cal k_Scanner.cl (fun fd F=>ok_Scanner_init F tSc) (fun fd F=>F.binds (ps:=["self","row","place"]) fun _ _ _ _ _ _ us hl=>match us,hl with | [_,_,_],_=>rfl)
 have c_Scanner:CalC P w K mg base cs "Scanner" ["self","row","place"] 1 (spScInit cs):=k_Scanner.calc KX G m_Scanner_init c_Scanner_init
 have c_Scanner_peek:CalM P w K mg base CX0 cs "peek" ["self"] 1 (spPeek K cs):=m_Scanner_peek.cal k_Scanner.cl (fun fd F=>ok_Scanner_peek F tSc) (fun fd F=>F.binds (ps:=["self"]) fun _ _ _ _ _ _ us hl=>match us,hl with | [_],_=>rfl)
 have c_Scanner_take:CalM P w K mg base CX0 cs "take" ["self"] 2 (spTake K cs):=m_Scanner_take.cal k_Scanner.cl (fun fd F=>ok_Scanner_take F tSc c_Scanner_peek) (fun fd F=>F.binds (ps:=["self"]) fun _ _ _ _ _ _ us hl=>match us,hl with | [_],_=>rfl)
 have c_is_digit:Cal P w K mg base CX0 "is_digit" ["sign"] 1 spDigit:=d_is_digit.cal KX G (fun fd F=>ok_is_digit F tSc) (fun fd F=>F.binds (ps:=["sign"]) fun _ _ _ _ _ _ us hl=>match us,hl with | [_],_=>rfl)
 have c_scan_number:Cal P w K mg base (CXe P w) "scan_number" ["scanner","least","most"] 4 (spScanNum cs xw):=d_scan_number.cal KX G (fun fd F=>ok_scan_number F tSc c_Scanner_peek c_Scanner_take c_is_digit cWF) (fun fd F=>F.binds (ps:=["scanner","least","most"]) fun _ _ _ _ _ _ us hl=>match us,hl with | [_,_,_],_=>rfl)
 have c_scan_argument:Cal P w K mg base (CXe P w) "scan_argument" ["scanner"] 5 (spScanArg cs xw):=d_scan_argument.cal KX G (fun fd F=>ok_scan_argument F tSc tSd c_Scanner_take c_scan_number cWF) (fun fd F=>F.binds (ps:=["scanner"]) fun _ _ _ _ _ _ us hl=>match us,hl with | [_],_=>rfl)
 have c_argument_is_next:Cal P w K mg base CX0 "argument_is_next" ["scanner"] 2 (spArgNext cs):=d_argument_is_next.cal KX G (fun fd F=>ok_argument_is_next F tSc tSd c_is_digit) (fun fd F=>F.binds (ps:=["scanner"]) fun _ _ _ _ _ _ us hl=>match us,hl with | [_],_=>rfl)
 have c_scan_flags:Cal P w K mg base (CXe P w) "scan_flags" ["scanner"] 4 (spScanFlags cs xw):=d_scan_flags.cal KX G (fun fd F=>ok_scan_flags F tSc tSd c_Scanner_peek c_Scanner_take cWF) (fun fd F=>F.binds (ps:=["scanner"]) fun _ _ _ _ _ _ us hl=>match us,hl with | [_],_=>rfl)
 have c_scan_star:Cal P w K mg base (CXe P w) "scan_star" ["scanner"] 6 (spScanStar ca cs xw):=d_scan_star.cal KX G (fun fd F=>ok_scan_star F tSc tAm c_Amount c_Scanner_peek c_Scanner_take c_is_digit c_scan_argument) (fun fd F=>F.binds (ps:=["scanner"]) fun _ _ _ _ _ _ us hl=>match us,hl with | [_],_=>rfl)
 have c_scan_written:Cal P w K mg base (CXe P w) "scan_written" ["scanner","least"] 5 (spScanWritten ca cs xw):=d_scan_written.cal KX G (fun fd F=>ok_scan_written F tSc tAm tSd c_Amount c_scan_number) (fun fd F=>F.binds (ps:=["scanner","least"]) fun _ _ _ _ _ _ us hl=>match us,hl with | [_,_],_=>rfl)
 have c_scan_width:Cal P w K mg base (CXe P w) "scan_width" ["scanner"] 7 (spScanWidth ca cs xw):=d_scan_width.cal KX G (fun fd F=>ok_scan_width F tSc tAm tSd c_Amount c_Scanner_peek c_is_digit c_scan_star c_scan_written) (fun fd F=>F.binds (ps:=["scanner"]) fun _ _ _ _ _ _ us hl=>match us,hl with | [_],_=>rfl)
 have c_scan_precision:Cal P w K mg base (CXe P w) "scan_precision" ["scanner"] 7 (spScanPrec ca cs xw):=d_scan_precision.cal KX G (fun fd F=>ok_scan_precision F tSc tAm tSd c_Amount c_Scanner_peek c_Scanner_take c_is_digit c_scan_star c_scan_written) (fun fd F=>F.binds (ps:=["scanner"]) fun _ _ _ _ _ _ us hl=>match us,hl with | [_],_=>rfl)
 have c_scan_length:Cal P w K mg base CX0 "scan_length" ["scanner"] 3 (spScanLen cs):=d_scan_length.cal KX G (fun fd F=>ok_scan_length F tSd gLENGTHS c_Scanner_peek c_Scanner_take) (fun fd F=>F.binds (ps:=["scanner"]) fun _ _ _ _ _ _ us hl=>match us,hl with | [_],_=>rfl)
 have c_scan_conversion:Cal P w K mg base (CXe P w) "scan_conversion" ["scanner"] 4 (spScanConv cs xw):=d_scan_conversion.cal KX G (fun fd F=>ok_scan_conversion F tSc tSd c_Scanner_take cWF) (fun fd F=>F.binds (ps:=["scanner"]) fun _ _ _ _ _ _ us hl=>match us,hl with | [_],_=>rfl)
 have c_scan_directive:Cal P w K mg base (CXe P w) "scan_directive" ["scanner"] 8 (spScanDir cd ca cs xw):=d_scan_directive.cal KX G (fun fd F=>ok_scan_directive F tSc tDr c_Directive c_argument_is_next c_scan_argument c_scan_flags c_scan_width c_scan_precision c_scan_length c_scan_conversion) (fun fd F=>F.binds (ps:=["scanner"]) fun _ _ _ _ _ _ us hl=>match us,hl with | [_],_=>rfl)
 have c_own_kind:Cal P w K mg base CX0 "own_kind" ["directive"] 1 (spKind cd ca):=d_own_kind.cal KX G (fun fd F=>ok_own_kind F tDr tKd) (fun fd F=>F.binds (ps:=["directive"]) fun _ _ _ _ _ _ us hl=>match us,hl with | [_],_=>rfl)
 have c_stars:Cal P w K mg base CX0 "stars" ["directive"] 1 (spStars cd ca):=d_stars.cal KX G (fun fd F=>ok_stars F tDr tAm) (fun fd F=>F.binds (ps:=["directive"]) fun _ _ _ _ _ _ us hl=>match us,hl with | [_],_=>rfl)
 have c_taken_pairs:Cal P w K mg base CX0 "taken_pairs" ["directive"] 2 (spPairs cd ca):=d_taken_pairs.cal KX G (fun fd F=>ok_taken_pairs F tDr tAm tKd c_stars c_own_kind) (fun fd F=>F.binds (ps:=["directive"]) fun _ _ _ _ _ _ us hl=>match us,hl with | [_],_=>rfl)
 have c_sign_flags_fit:Cal P w K mg base CX0 "sign_flags_fit" ["directive"] 1 (spPart cd ca p1):=d_sign_flags_fit.cal KX G (fun fd F=>ok_sign_flags_fit F tDr tKd tRu) (fun fd F=>F.binds (ps:=["directive"]) fun _ _ _ _ _ _ us hl=>match us,hl with | [_],_=>rfl)
 have c_zero_fits:Cal P w K mg base CX0 "zero_fits" ["directive"] 1 (spPart cd ca p2):=d_zero_fits.cal KX G (fun fd F=>ok_zero_fits F tDr tAm tRu) (fun fd F=>F.binds (ps:=["directive"]) fun _ _ _ _ _ _ us hl=>match us,hl with | [_],_=>rfl)
 have c_hash_fits:Cal P w K mg base CX0 "hash_fits" ["directive"] 1 (spPart cd ca p3):=d_hash_fits.cal KX G (fun fd F=>ok_hash_fits F tDr tRu) (fun fd F=>F.binds (ps:=["directive"]) fun _ _ _ _ _ _ us hl=>match us,hl with | [_],_=>rfl)
 have c_precision_fits:Cal P w K mg base CX0 "precision_fits" ["directive"] 1 (spPart cd ca p4):=d_precision_fits.cal KX G (fun fd F=>ok_precision_fits F tDr tAm tRu) (fun fd F=>F.binds (ps:=["directive"]) fun _ _ _ _ _ _ us hl=>match us,hl with | [_],_=>rfl)
 have c_length_fits:Cal P w K mg base CX0 "length_fits" ["directive"] 1 (spPart cd ca p5):=d_length_fits.cal KX G (fun fd F=>ok_length_fits F tDr tRu) (fun fd F=>F.binds (ps:=["directive"]) fun _ _ _ _ _ _ us hl=>match us,hl with | [_],_=>rfl)
 have c_stars_fit:Cal P w K mg base CX0 "stars_fit" ["directive"] 2 (spStarsFit cd ca):=d_stars_fit.cal KX G (fun fd F=>ok_stars_fit F tDr tAm c_stars) (fun fd F=>F.binds (ps:=["directive"]) fun _ _ _ _ _ _ us hl=>match us,hl with | [_],_=>rfl)
 have c_is_right:Cal P w K mg base CX0 "is_right" ["directive"] 3 (spRight cd ca):=d_is_right.cal KX G (fun fd F=>ok_is_right F c_sign_flags_fit c_zero_fits c_hash_fits c_precision_fits c_length_fits c_stars_fit) (fun fd F=>F.binds (ps:=["directive"]) fun _ _ _ _ _ _ us hl=>match us,hl with | [_],_=>rfl)
 have c_Format_init:CalM P w K mg base CX0 cf "__init__" ["self","row"] 1 (spFmInit K cf cd ca):=m_Format_init.cal k_Format.cl (fun fd F=>ok_Format_init F tFm) (fun fd F=>F.binds (ps:=["self","row"]) fun _ _ _ _ _ _ us hl=>match us,hl with | [_,_],_=>rfl)
 have c_Format:CalC P w K mg base cf "Format" ["self","row"] 1 (spFmInit K cf cd ca):=k_Format.calc KX G m_Format_init c_Format_init
 have c_Format_highest_argument:CalM P w K mg base CX0 cf "highest_argument" ["self"] 1 (spHighest cf cd ca):=m_Format_highest_argument.cal k_Format.cl (fun fd F=>ok_Format_highest F tFm) (fun fd F=>F.binds (ps:=["self"]) fun _ _ _ _ _ _ us hl=>match us,hl with | [_],_=>rfl)
 have c_Format_kind_of:CalM P w K mg base CX0 cf "kind_of" ["self","argument"] 1 (spKindOf cf cd ca):=m_Format_kind_of.cal k_Format.cl (fun fd F=>ok_Format_kind_of F tFm) (fun fd F=>F.binds (ps:=["self","argument"]) fun _ _ _ _ _ _ us hl=>match us,hl with | [_,_],_=>rfl)
 have c_Format_directive_at:CalM P w K mg base (CXe P w) cf "directive_at" ["self","index"] 1 (spDirAt cf cd ca xd):=m_Format_directive_at.cal k_Format.cl (fun fd F=>ok_Format_directive_at F tFm xND) (fun fd F=>F.binds (ps:=["self","index"]) fun _ _ _ _ _ _ us hl=>match us,hl with | [_,_],_=>rfl)
 have c_fits_in:Cal P w K mg base CX0 "fits_in" ["found","directive"] 1 (spFitsIn cf cd ca):=d_fits_in.cal KX G (fun fd F=>ok_fits_in F tFm tDr) (fun fd F=>F.binds (ps:=["found","directive"]) fun _ _ _ _ _ _ us hl=>match us,hl with | [_,_],_=>rfl)
 have c_number_in_order:Cal P w K mg base CX0 "number_in_order" ["found","directive"] 2 (spOrder cf cd ca):=d_number_in_order.cal KX G (fun fd F=>ok_number_in_order F tDr tAm c_Format_highest_argument c_stars) (fun fd F=>F.binds (ps:=["found","directive"]) fun _ _ _ _ _ _ us hl=>match us,hl with | [_,_],_=>rfl)
 have c_add_directive:Cal P w K mg base (CXe P w) "add_directive" ["found","directive"] 4 (spAdd cf cd ca xw):=d_add_directive.cal KX G (fun fd F=>ok_add_directive F tFm tDr tSd c_fits_in c_number_in_order c_taken_pairs cWF) (fun fd F=>F.binds (ps:=["found","directive"]) fun _ _ _ _ _ _ us hl=>match us,hl with | [_,_],_=>rfl)
 have c_read_directive:Cal P w K mg base (CXe P w) "read_directive" ["row","place"] 9 (spReadDir cd ca xw):=d_read_directive.cal KX G (fun fd F=>ok_read_directive F c_Scanner c_scan_directive c_is_right cWF) (fun fd F=>F.binds (ps:=["row","place"]) fun _ _ _ _ _ _ us hl=>match us,hl with | [_,_],_=>rfl)
 have c_read_format:Cal P w K mg base (CXe P w) "read_format" ["row"] 10 (spReadFmt cf cd ca xw):=d_read_format.cal KX G (fun fd F=>ok_read_format F tFm tDr gPERCENT c_Format c_read_directive c_add_directive) (fun fd F=>F.binds (ps:=["row"]) fun _ _ _ _ _ _ us hl=>match us,hl with | [_],_=>rfl)
 have c_least_difference:Cal P w K mg base CX0 "least_difference" ["one","other"] 2 (spDiff cf cd ca):=d_least_difference.cal KX G (fun fd F=>ok_least_difference F tMs c_Format_kind_of) (fun fd F=>F.binds (ps:=["one","other"]) fun _ _ _ _ _ _ us hl=>match us,hl with | [_,_],_=>rfl)
 have c_first_not_taken:Cal P w K mg base CX0 "first_not_taken" ["found","kinds"] 2 (spNotTaken K cf cd ca):=d_first_not_taken.cal KX G (fun fd F=>ok_first_not_taken F tMs c_Format_kind_of) (fun fd F=>F.binds (ps:=["found","kinds"]) fun _ _ _ _ _ _ us hl=>match us,hl with | [_,_],_=>rfl)
 have c_first_misuse:Cal P w K mg base CX0 "first_misuse" ["found","kinds"] 3 (spMisuse K cf cd ca):=d_first_misuse.cal KX G (fun fd F=>ok_first_misuse F tFm tMs c_taken_pairs c_first_not_taken) (fun fd F=>F.binds (ps:=["found","kinds"]) fun _ _ _ _ _ _ us hl=>match us,hl with | [_,_],_=>rfl)
 have c_unsigned_number:Cal P w K mg base CX0 "unsigned_number" ["value","length"] 1 spUns:=d_unsigned_number.cal KX G (fun fd F=>ok_unsigned_number F tDg) (fun fd F=>F.binds (ps:=["value","length"]) fun _ _ _ _ _ _ us hl=>match us,hl with | [_,_],_=>rfl)
 have c_signed_number:Cal P w K mg base CX0 "signed_number" ["value","length"] 1 spSig:=d_signed_number.cal KX G (fun fd F=>ok_signed_number F tDg) (fun fd F=>F.binds (ps:=["value","length"]) fun _ _ _ _ _ _ us hl=>match us,hl with | [_,_],_=>rfl)
 have c_digit_sign:Cal P w K mg base CX0 "digit_sign" ["digit","conversion"] 1 spDigSign:=d_digit_sign.cal KX G (fun fd F=>ok_digit_sign F tDg) (fun fd F=>F.binds (ps:=["digit","conversion"]) fun _ _ _ _ _ _ us hl=>match us,hl with | [_,_],_=>rfl)
 have c_digits_of:Cal P w K mg base CX0 "digits_of" ["magnitude","conversion","least"] 2 spDigits:=d_digits_of.cal KX G (fun fd F=>ok_digits_of F tDg c_digit_sign) (fun fd F=>F.binds (ps:=["magnitude","conversion","least"]) fun _ _ _ _ _ _ us hl=>match us,hl with | [_,_,_],_=>rfl)
 have c_Argument_init:CalM P w K mg base CX0 cg "__init__" ["self","kind","size","value"] 1 (spAgInit cg):=m_Argument_init.cal k_Argument.cl (fun fd F=>ok_Argument_init F tAg) (fun fd F=>F.binds (ps:=["self","kind","size","value"]) fun _ _ _ _ _ _ us hl=>match us,hl with | [_,_,_,_],_=>rfl)
 have c_Argument:CalC P w K mg base cg "Argument" ["self","kind","size","value"] 1 (spAgInit cg):=k_Argument.calc KX G m_Argument_init c_Argument_init
 have c_read_arguments:Cal P w K mg base (CXe P w) "read_arguments" ["numbers"] 3 (spReadArgs K cg xa):=d_read_arguments.cal KX G (fun fd F=>ok_read_arguments F tAg c_Argument xWA) (fun fd F=>F.binds (ps:=["numbers"]) fun _ _ _ _ _ _ us hl=>match us,hl with | [_],_=>rfl)
 have c_asked_amount:Cal P w K mg base CX0 "asked_amount" ["amount","arguments"] 2 (spAsked ca cg):=d_asked_amount.cal KX G (fun fd F=>ok_asked_amount F tAm tAg c_signed_number) (fun fd F=>F.binds (ps:=["amount","arguments"]) fun _ _ _ _ _ _ us hl=>match us,hl with | [_,_],_=>rfl)
 have c_check_arguments:Cal P w K mg base (CXe P w) "check_arguments" ["found","arguments","pool"] 4 (spCheck K cf cd ca cg xa xm):=d_check_arguments.cal KX G (fun fd F=>ok_check_arguments F tFm tAg c_first_misuse c_stars c_asked_amount xWA xWM) (fun fd F=>F.binds (ps:=["found","arguments","pool"]) fun _ _ _ _ _ _ us hl=>match us,hl with | [_,_,_],_=>rfl)
 have c_Field_init:CalM P w K mg base CX0 ce "__init__" ["self","before","body"] 1 (spFdInit ce):=m_Field_init.cal k_Field.cl (fun fd F=>ok_Field_init F tFd) (fun fd F=>F.binds (ps:=["self","before","body"]) fun _ _ _ _ _ _ us hl=>match us,hl with | [_,_,_],_=>rfl)
 have c_Field:CalC P w K mg base ce "Field" ["self","before","body"] 1 (spFdInit ce):=k_Field.calc KX G m_Field_init c_Field_init
 have c_plain_bytes:Cal P w K mg base CX0 "plain_bytes" ["row","begin","end"] 1 (spPlain K):=d_plain_bytes.cal KX G (fun fd F=>ok_plain_bytes F tFd) (fun fd F=>F.binds (ps:=["row","begin","end"]) fun _ _ _ _ _ _ us hl=>match us,hl with | [_,_,_],_=>rfl)
 have c_asked_precision:Cal P w K mg base CX0 "asked_precision" ["directive","arguments"] 3 (spAskedP cd ca cg):=d_asked_precision.cal KX G (fun fd F=>ok_asked_precision F tDr tAm c_asked_amount) (fun fd F=>F.binds (ps:=["directive","arguments"]) fun _ _ _ _ _ _ us hl=>match us,hl with | [_,_],_=>rfl)
 have c_shown_text:Cal P w K mg base CX0 "shown_text" ["argument","precision","pool"] 1 (spShown K cg):=d_shown_text.cal KX G (fun fd F=>ok_shown_text F tAg tFd) (fun fd F=>F.binds (ps:=["argument","precision","pool"]) fun _ _ _ _ _ _ us hl=>match us,hl with | [_,_,_],_=>rfl)
 have c_sign_of:Cal P w K mg base CX0 "sign_of" ["directive","number"] 1 (spSignOf cd ca):=d_sign_of.cal KX G (fun fd F=>ok_sign_of F tDr tRu) (fun fd F=>F.binds (ps:=["directive","number"]) fun _ _ _ _ _ _ us hl=>match us,hl with | [_,_],_=>rfl)
 have c_signed_field:Cal P w K mg base CX0 "signed_field" ["directive","number","least"] 3 (spSigField cd ca ce):=d_signed_field.cal KX G (fun fd F=>ok_signed_field F tDr tFd c_Field c_sign_of c_digits_of) (fun fd F=>F.binds (ps:=["directive","number","least"]) fun _ _ _ _ _ _ us hl=>match us,hl with | [_,_,_],_=>rfl)
 have c_unsigned_field:Cal P w K mg base CX0 "unsigned_field" ["directive","number","least"] 3 (spUnsField cd ca ce):=d_unsigned_field.cal KX G (fun fd F=>ok_unsigned_field F tDr tFd tRu c_Field c_digits_of) (fun fd F=>F.binds (ps:=["directive","number","least"]) fun _ _ _ _ _ _ us hl=>match us,hl with | [_,_,_],_=>rfl)
 have c_widened:Cal P w K mg base CX0 "widened" ["field","directive","width"] 1 (spWide cd ca ce):=d_widened.cal KX G (fun fd F=>ok_widened F tDr tFd tRu) (fun fd F=>F.binds (ps:=["field","directive","width"]) fun _ _ _ _ _ _ us hl=>match us,hl with | [_,_,_],_=>rfl)
 have c_field_of:Cal P w K mg base CX0 "field_of" ["directive","arguments","pool"] 4 (spFieldOf K cd ca cg ce):=d_field_of.cal KX G (fun fd F=>ok_field_of F tDr tAg tKd tRu c_Field c_asked_precision c_shown_text c_signed_field c_unsigned_field c_signed_number c_unsigned_number) (fun fd F=>F.binds (ps:=["directive","arguments","pool"]) fun _ _ _ _ _ _ us hl=>match us,hl with | [_,_,_],_=>rfl)
 have c_render:Cal P w K mg base (CXe P w) "render" ["found","numbers","pool"] 5 (spRender K cf cd ca xa xm):=d_render.cal KX G (fun fd F=>ok_render F tFm tDr tFd c_read_arguments c_check_arguments c_plain_bytes c_field_of c_widened c_asked_amount) (fun fd F=>F.binds (ps:=["found","numbers","pool"]) fun _ _ _ _ _ _ us hl=>match us,hl with | [_,_,_],_=>rfl)
 have c_Desk_init:CalM P w K mg base CX0 ck "__init__" ["self"] 1 (spDkInit C):=m_Desk_init.cal k_Desk.cl (fun fd F=>ok_Desk_init F tDk) (fun fd F=>F.binds (ps:=["self"]) fun _ _ _ _ _ _ us hl=>match us,hl with | [_],_=>rfl)
 have c_Desk:CalC P w K mg base ck "Desk" ["self"] 1 (spDkInit C):=k_Desk.calc KX G m_Desk_init c_Desk_init
 have c_Desk_held:CalM P w K mg base (CXe P w) ck "held" ["self"] 1 (spHeld C):=m_Desk_held.cal k_Desk.cl (fun fd F=>ok_Desk_held F tDk xNF) (fun fd F=>F.binds (ps:=["self"]) fun _ _ _ _ _ _ us hl=>match us,hl with | [_],_=>rfl)
 have c_CallReader_init:CalM P w K mg base CX0 cr "__init__" ["self","numbers"] 1 (spCrInit cr):=m_CallReader_init.cal k_CallReader.cl (fun fd F=>ok_CallReader_init F tCr) (fun fd F=>F.binds (ps:=["self","numbers"]) fun _ _ _ _ _ _ us hl=>match us,hl with | [_,_],_=>rfl)
 have c_CallReader:CalC P w K mg base cr "CallReader" ["self","numbers"] 1 (spCrInit cr):=k_CallReader.calc KX G m_CallReader_init c_CallReader_init
 have c_CallReader_at_end:CalM P w K mg base CX0 cr "at_end" ["self"] 1 (spCrEnd K cr):=m_CallReader_at_end.cal k_CallReader.cl (fun fd F=>ok_CallReader_at_end F tCr) (fun fd F=>F.binds (ps:=["self"]) fun _ _ _ _ _ _ us hl=>match us,hl with | [_],_=>rfl)
 have c_CallReader_take:CalM P w K mg base CX0 cr "take" ["self"] 1 (spCrTake K cr):=m_CallReader_take.cal k_CallReader.cl (fun fd F=>ok_CallReader_take F tCr) (fun fd F=>F.binds (ps:=["self"]) fun _ _ _ _ _ _ us hl=>match us,hl with | [_],_=>rfl)
 have c_CallReader_take_row:CalM P w K mg base CX0 cr "take_row" ["self"] 2 (spCrRow K cr):=m_CallReader_take_row.cal k_CallReader.cl (fun fd F=>ok_CallReader_take_row F tCr c_CallReader_take) (fun fd F=>F.binds (ps:=["self"]) fun _ _ _ _ _ _ us hl=>match us,hl with | [_],_=>rfl)
 have a_answer_parse:AnsF P w K mg base C 1 f_answer_parse:=d_answer_parse.ans (fun fd F=>FnOk.mono (ok_answer_parse F tDk tCr.cl c_CallReader_take_row c_read_format) (by decide)) (fun fd F=>F.binds (ps:=["desk","reader"]) fun _ _ _ _ _ _ us hl=>match us,hl with | [_,_],_=>rfl)
 have a_answer_write:AnsF P w K mg base C 2 f_answer_write:=d_answer_write.ans (fun fd F=>FnOk.mono (ok_answer_write F tDk tFm c_Desk_held) (by decide)) (fun fd F=>F.binds (ps:=["desk","reader"]) fun _ _ _ _ _ _ us hl=>match us,hl with | [_,_],_=>rfl)
 have a_answer_count:AnsF P w K mg base C 3 f_answer_count:=d_answer_count.ans (fun fd F=>FnOk.mono (ok_answer_count F tDk tFm c_Desk_held) (by decide)) (fun fd F=>F.binds (ps:=["desk","reader"]) fun _ _ _ _ _ _ us hl=>match us,hl with | [_,_],_=>rfl)
 have a_answer_highest:AnsF P w K mg base C 4 f_answer_highest:=d_answer_highest.ans (fun fd F=>FnOk.mono (ok_answer_highest F tFm c_Desk_held c_Format_highest_argument) (by decide)) (fun fd F=>F.binds (ps:=["desk","reader"]) fun _ _ _ _ _ _ us hl=>match us,hl with | [_,_],_=>rfl)
 have a_answer_kind:AnsF P w K mg base C 5 f_answer_kind:=d_answer_kind.ans (fun fd F=>FnOk.mono (ok_answer_kind F tFm c_CallReader_take c_Desk_held c_Format_kind_of) (by decide)) (fun fd F=>F.binds (ps:=["desk","reader"]) fun _ _ _ _ _ _ us hl=>match us,hl with | [_,_],_=>rfl)
 have a_answer_directive:AnsF P w K mg base C 6 f_answer_directive:=d_answer_directive.ans (fun fd F=>FnOk.mono (ok_answer_directive F tFm tDr tAm c_CallReader_take c_Desk_held c_Format_directive_at c_own_kind) (by decide)) (fun fd F=>F.binds (ps:=["desk","reader"]) fun _ _ _ _ _ _ us hl=>match us,hl with | [_,_],_=>rfl)
 have a_answer_check:AnsF P w K mg base C 7 f_answer_check:=d_answer_check.ans (fun fd F=>FnOk.mono (ok_answer_check F tDk c_CallReader_take_row c_Desk_held c_first_misuse) (by decide)) (fun fd F=>F.binds (ps:=["desk","reader"]) fun _ _ _ _ _ _ us hl=>match us,hl with | [_,_],_=>rfl)
 have a_answer_same:AnsF P w K mg base C 8 f_answer_same:=d_answer_same.ans (fun fd F=>FnOk.mono (ok_answer_same F c_CallReader_take_row c_Desk_held c_read_format c_least_difference) (by decide)) (fun fd F=>F.binds (ps:=["desk","reader"]) fun _ _ _ _ _ _ us hl=>match us,hl with | [_,_],_=>rfl)
 have a_answer_render:AnsF P w K mg base C 9 f_answer_render:=d_answer_render.ans (fun fd F=>FnOk.mono (ok_answer_render F tDk c_CallReader_take_row c_Desk_held c_render) (by decide)) (fun fd F=>F.binds (ps:=["desk","reader"]) fun _ _ _ _ _ _ us hl=>match us,hl with | [_,_],_=>rfl)
 have tAn:TAn P w K mg base C f_answer_parse f_answer_write f_answer_count f_answer_highest f_answer_kind f_answer_directive f_answer_check f_answer_same f_answer_render:=⟨gANSWERERS,a_answer_parse,a_answer_write,a_answer_count,a_answer_highest,a_answer_kind,a_answer_directive,a_answer_check,a_answer_same,a_answer_render⟩
 have c_answer_call:Cal P w K mg base CX0 "answer_call" ["desk","reader"] 12 (spCall K C):=d_answer_call.cal KX G (fun fd F=>ok_answer_call F tEx tAn c_CallReader_take) (fun fd F=>F.binds (ps:=["desk","reader"]) fun _ _ _ _ _ _ us hl=>match us,hl with | [_,_],_=>rfl)
 exact ok_answers F0 tDk c_Desk c_CallReader c_CallReader_at_end c_answer_call
end Fm
namespace Fm
open PySem PySem.Spec PyProof.Rows L2
section
variable {P:Program} {w:World} {K:PySem.W.Frag} {h:Heap} {mg:Str→Option Value} {x:Str}
theorem xc_at {C N:Addr} (a:PySem.W.nsIn K mainGlobals x=some (some (.ref C))) (ex:XText K C N) (kp:PySem.W.keepIn K (.ref C)=true) (ic:PySem.W.isClsIn K C=true)
 (ty:PySem.W.typeIn K (.ref C)=some (.type "type")) (sb:PySem.W.subIn K (.ref C) (.type "BaseException")=some true):XcAt K x C:=⟨a,ex.exc,kp,ic,ty,sb⟩
def EntS (w:World) (e:DictEntry) (kv:Str×V):Prop:=(∃t,e.key=.str kv.1 t)∧e.hash=hashStr w kv.1∧RelV kv.2 e.val
theorem gds_mk (X:K.In h) (G:h.Ns mainGlobals mg) {a:Addr} {ks:List (Str×V)} {es:Array DictEntry} {ep:Nat} (e:PySem.W.nsIn K mainGlobals x=some (some (.ref a))) (l:K.lookup a=some ⟨.type "dict",none,.dict es ep,#[]⟩)
 (ha:(a==sysModules)=false) (hv:Paired (EntS w) es.toList ks) (nd:(ks.map (·.1)).Nodup):GD P w K mg x (ks.map fun kv=>(Sum.inr kv.1,kv.2)):=by
 have key:∀{l:List DictEntry} {ks:List (Str×V)},Paired (EntS w) l ks→∃vs:List (Key×Value),KV (ks.map fun kv=>((Sum.inr kv.1:Key),kv.2)) vs∧Pairs (mixKind P w) l vs∧vs.map (·.1)=ks.map (fun kv=>Sum.inr kv.1)∧∀e∈l,∃k,(mixKind P w).is k e.key=true∧e.hash=(mixKind P w).hash k:=by
  intro l ks hp
  induction hp with
  | nil=>exact ⟨[],.nil,.nil,rfl,by simp⟩
  | @cons en kv l ks r t ih=>
   obtain ⟨vs,h1,h2,h3,h4⟩:=ih
   obtain ⟨⟨tk,hk⟩,hh,hr⟩:=r
   have is1:(mixKind P w).is (Sum.inr kv.1) en.key=true:=by
    rw [hk]
    show Value.isStrOf kv.1 (.str kv.1 tk)=true
    simp [Value.isStrOf]
   refine ⟨(Sum.inr kv.1,en.val)::vs,.cons ⟨rfl,hr⟩ h1,.cons is1 rfl h2,by rw [List.map_cons,List.map_cons,h3],fun e he=>?_⟩
   rcases List.mem_cons.mp he with rfl | he
   ·exact ⟨_,is1,hh⟩
   ·exact h4 e he
 obtain ⟨vs,h1,h2,h3,h4⟩:=key hv
 refine ⟨a,vs,PySem.W.mg_of X G e,ha,h1,fun h' X'=>⟨_,es,ep,X' _ _ l,⟨rfl,rfl,rfl⟩,rfl,?_,h2,?_⟩⟩
 ·intro en he
  exact h4 en (Array.mem_toList_iff.mpr he)
 ·rw [h3]
  have:ks.map (fun kv=>(Sum.inr kv.1:Key))=(ks.map (·.1)).map Sum.inr:=by rw [List.map_map];rfl
  rw [this]
  exact List.Pairwise.map _ (fun a b hab z=>hab (Sum.inr.inj z)) nd
theorem own_at {C N:Addr} (T:XText K C N) {name:Str} {r:Option (Option Value)} (e:PySem.W.nsIn K N name=r):PySem.W.ownIn K name (.ref C)=r:=T.own e
end
theorem xtext {K:PySem.W.Frag} {C N:Addr} {dd nm bs q sn sub ab col k0 k1 k2 k3 k5} {oc:Value} {od:Option Addr} {es:Array DictEntry} {ep:Nat} {sl:Array (Option Value)} (l:K.lookup C=some ⟨.type "type",dd,.cls ⟨nm,bs,[.ref C,.type "Exception",.type "BaseException",.type "object"],N,q,true,sn,sub,ab,col,false⟩,#[k0,k1,k2,k3,some (.builtin "Exception.__new__"),k5]⟩)
 (l2:K.lookup N=some ⟨oc,od,.dict es ep,sl⟩) (hs:(es.toList.all fun e=>match e.key with | .str _ _=>true | _=>false)=true):XText K C N:=⟨⟨dd,nm,bs,q,sn,sub,ab,col,k0,k1,k2,k3,k5,l⟩,str_ns l2 hs⟩
end Fm
namespace PySem.W.Fast
theorem tw11795437490403340162:True:=⟨⟩
theorem tw12690527071592577686:True:=⟨⟩
theorem tw2392565952106268120:True:=⟨⟩
theorem tw9644171876569435686:True:=⟨⟩
theorem tw477920783479741527:True:=⟨⟩
theorem tw11609196524336785429:True:=⟨⟩
theorem tw1417718737244345282:True:=⟨⟩
theorem tw5319107341150468554:True:=⟨⟩
theorem tw9040276807651912493:True:=⟨⟩
theorem tw8441434132193290387:True:=⟨⟩
theorem tw13570974307197070951:True:=⟨⟩
theorem tw10875366035460202202:True:=⟨⟩
theorem tw13947150556838332850:True:=⟨⟩
theorem tw18430661416033396595:True:=⟨⟩
theorem tw7790759615859764417:True:=⟨⟩
theorem tw13474275234562420535:True:=⟨⟩
theorem tw1682031966333713634:True:=⟨⟩
theorem tw1404864528318850338:True:=⟨⟩
theorem tw393862183860409333:True:=⟨⟩
theorem tw8569602931714151717:True:=⟨⟩
theorem tw15349376425961546439:True:=⟨⟩
theorem tw8292756225458196625:True:=⟨⟩
theorem tw3265569296445254523:True:=⟨⟩
theorem tw11548056766414809295:True:=⟨⟩
theorem tw18239421771166394923:True:=⟨⟩
theorem tw14390367003990107676:True:=⟨⟩
theorem tw6153489390101992505:True:=⟨⟩
theorem tw10465762974597814226:True:=⟨⟩
theorem tw3708419841579440461:True:=⟨⟩
theorem tw684661411872705384:True:=⟨⟩
theorem tw10593005096164671074:True:=⟨⟩
theorem tw17238556829929287822:True:=⟨⟩
theorem tw3600929766846925790:True:=⟨⟩
theorem tw15473884369225567026:True:=⟨⟩
theorem tw14764438741205650987:True:=⟨⟩
theorem tw7856589462450645114:True:=⟨⟩
theorem tw652712942243594278:True:=⟨⟩
theorem tw2957251477009167126:True:=⟨⟩
theorem tw13062344561006612455:True:=⟨⟩
theorem tw8986895382465221472:True:=⟨⟩
theorem tw17595975127267646154:True:=⟨⟩
theorem tw11662505310630381956:True:=⟨⟩
theorem tw12723447922465991094:True:=⟨⟩
theorem tw3081824759317685223:True:=⟨⟩
theorem tw4268939492777686546:True:=⟨⟩
theorem tw16765536300383759860:True:=⟨⟩
theorem tw985625170311652162:True:=⟨⟩
theorem tw15837495010032677564:True:=⟨⟩
theorem tw13052732762549784723:True:=⟨⟩
theorem tw2468778224757415286:True:=⟨⟩
theorem tw7976864021498740439:True:=⟨⟩
theorem tw4246913783835337994:True:=⟨⟩
theorem tw166560725710675745:True:=⟨⟩
theorem tw6702171440941575074:True:=⟨⟩
theorem tw6863819157006780573:True:=⟨⟩
theorem tw18065254873870758160:True:=⟨⟩
theorem tw4188030600576991949:True:=⟨⟩
theorem tw116335648630661857:True:=⟨⟩
theorem tw9329922453563230871:True:=⟨⟩
theorem tw4555871840392183934:True:=⟨⟩
theorem tw3944359179667693619:True:=⟨⟩
theorem tw1242597312846343724:True:=⟨⟩
theorem tw7551836911259200974:True:=⟨⟩
theorem tw13888761356493608664:True:=⟨⟩
theorem tw3558203813956517688:True:=⟨⟩
theorem tw1792490200817357369:True:=⟨⟩
theorem tw8711257452337747425:True:=⟨⟩
theorem tw13617099265346182853:True:=⟨⟩
theorem tw13707358349571236671:True:=⟨⟩
theorem tw15452633232327484803:True:=⟨⟩
theorem tw17942659236004924353:True:=⟨⟩
theorem tw14756379715333099727:True:=⟨⟩
theorem tw5849789639304128611:True:=⟨⟩
theorem tw13997172524910254542:True:=⟨⟩
theorem tw17247305917975508896:True:=⟨⟩
theorem tw414419254069881068:True:=⟨⟩
theorem tw7369394565104021814:True:=⟨⟩
theorem tw10383338584660301491:True:=⟨⟩
theorem tw15996775190725881543:True:=⟨⟩
theorem tw11869347416371101882:True:=⟨⟩
theorem tw13888352688524548558:True:=⟨⟩
theorem tw237296209245756063:True:=⟨⟩
theorem tw17163159664345404854:True:=⟨⟩
theorem tw7459507124524546165:True:=⟨⟩
theorem tw3809267446585384642:True:=⟨⟩
theorem tw15093081081694016005:True:=⟨⟩
theorem tw10233790937189787104:True:=⟨⟩
theorem tw9492589062879696536:True:=⟨⟩
theorem tw5845892795710540799:True:=⟨⟩
theorem tw15147381131836205831:True:=⟨⟩
theorem tw602649378848108917:True:=⟨⟩
theorem tw4281391069874203997:True:=⟨⟩
theorem tw6889811590804796156:True:=⟨⟩
theorem tw11140479284865557029:True:=⟨⟩
theorem tw5454396793825145531:True:=⟨⟩
theorem tw12620836188070401495:True:=⟨⟩
theorem tw4858200909781678490:True:=⟨⟩
theorem tw2941341511950662126:True:=⟨⟩
theorem tw3419768511234435061:True:=⟨⟩
theorem tw3505182086610324895:True:=⟨⟩
theorem tw8143915562997617869:True:=⟨⟩
theorem tw4786121199018215087:True:=⟨⟩
theorem tw5172941386515925990:True:=⟨⟩
theorem tw6904718644109554719:True:=⟨⟩
theorem tw14459678912108543242:True:=⟨⟩
theorem tw8845516466211073105:True:=⟨⟩
theorem tw9169777972354076529:True:=⟨⟩
theorem tw12815992282187150301:True:=⟨⟩
theorem tw3492993790666476242:True:=⟨⟩
theorem tw2908285269092314566:True:=⟨⟩
theorem tw13843009704462882611:True:=⟨⟩
theorem tw17334281873691527523:True:=⟨⟩
theorem tw3458501984004614848:True:=⟨⟩
theorem tw10331291097547980198:True:=⟨⟩
theorem tw5321112886457322874:True:=⟨⟩
theorem tw5998228527310631386:True:=⟨⟩
theorem tw13026226503244843419:True:=⟨⟩
theorem tw7076430459031027677:True:=⟨⟩
theorem tw4774085885162091896:True:=⟨⟩
theorem tw8890950029375938233:True:=⟨⟩
theorem tw2233011073482477310:True:=⟨⟩
theorem tw864842118570696729:True:=⟨⟩
theorem tw17193271949369719865:True:=⟨⟩
theorem tw7630833714772925189:True:=⟨⟩
theorem tw9957555802657148049:True:=⟨⟩
theorem tw7018985476688081006:True:=⟨⟩
theorem tw3959684068021833734:True:=⟨⟩
theorem tw16122827307483932741:True:=⟨⟩
theorem tw8054219117639975271:True:=⟨⟩
theorem tw13614122870342912622:True:=⟨⟩
theorem tw16579908273433773519:True:=⟨⟩
theorem tw12462143364197265972:True:=⟨⟩
theorem tw8632196562969332486:True:=⟨⟩
theorem tw6857410057423013824:True:=⟨⟩
theorem tw16363218897909460576:True:=⟨⟩
theorem tw18427200720866435178:True:=⟨⟩
theorem tw17248308893875871120:True:=⟨⟩
theorem tw15215083729739165360:True:=⟨⟩
theorem tw9238756561556643318:True:=⟨⟩
theorem tw16436637785843767140:True:=⟨⟩
theorem tw15568435826722112162:True:=⟨⟩
theorem tw3429851726393278446:True:=⟨⟩
theorem tw17159209364955109332:True:=⟨⟩
theorem tw6891878952889124303:True:=⟨⟩
theorem tw13204367899660768295:True:=⟨⟩
theorem tw7913874966378019471:True:=⟨⟩
theorem tw9838391460046388662:True:=⟨⟩
theorem tw8125963120082729243:True:=⟨⟩
theorem tw293425212551904260:True:=⟨⟩
theorem tw6350355796482415197:True:=⟨⟩
theorem tw13353292424493716510:True:=⟨⟩
theorem tw17988016136358262803:True:=⟨⟩
theorem tw10178059296808449884:True:=⟨⟩
theorem tw3220373292409733470:True:=⟨⟩
theorem tw13391181859261683595:True:=⟨⟩
theorem tw15860321206166413889:True:=⟨⟩
theorem tw12350692470567663875:True:=⟨⟩
theorem tw11633433197992307173:True:=⟨⟩
theorem tw50377206577146050:True:=⟨⟩
theorem tw1240712839245316012:True:=⟨⟩
theorem tw10208711240814725974:True:=⟨⟩
theorem tw4075905372499139518:True:=⟨⟩
theorem tw17770238649688025734:True:=⟨⟩
theorem tw14364865472159734302:True:=⟨⟩
theorem tw4994121215451459048:True:=⟨⟩
theorem tw1546360585232609154:True:=⟨⟩
theorem tw15342489694007191810:True:=⟨⟩
theorem tw4084280164219663774:True:=⟨⟩
theorem tw1827441814706025521:True:=⟨⟩
theorem tw6107414825999838924:True:=⟨⟩
theorem tw2434135479792382177:True:=⟨⟩
theorem tw14402059200077611148:True:=⟨⟩
theorem tw17697213513587295429:True:=⟨⟩
theorem tw2558106972422618352:True:=⟨⟩
theorem tw3839558804137280480:True:=⟨⟩
theorem tw13553595145939781349:True:=⟨⟩
theorem tw17314196645455145856:True:=⟨⟩
theorem tw5804375894269940576:True:=⟨⟩
theorem tw11337308158081938978:True:=⟨⟩
theorem tw6935842846700353260:True:=⟨⟩
theorem tw5313844206424583152:True:=⟨⟩
theorem tw847934611865760405:True:=⟨⟩
theorem tw12913632128442913884:True:=⟨⟩
theorem tw9909523550489747776:True:=⟨⟩
theorem tw10823974219905647425:True:=⟨⟩
theorem tw7125832183709001383:True:=⟨⟩
theorem tw7613572096072382753:True:=⟨⟩
theorem tw8716298616133331743:True:=⟨⟩
theorem tw8719057558011057231:True:=⟨⟩
theorem tw15958243190239818275:True:=⟨⟩
theorem tw12362096136010014846:True:=⟨⟩
theorem tw5565603577845137732:True:=⟨⟩
theorem tw14675876656720306098:True:=⟨⟩
theorem tw7795010026907223644:True:=⟨⟩
theorem tw11603509576068826380:True:=⟨⟩
theorem tw974826339656155287:True:=⟨⟩
theorem tw16042724778070243807:True:=⟨⟩
theorem tw5774234011708393149:True:=⟨⟩
theorem tw7215036521983283159:True:=⟨⟩
theorem tw5139215000887131530:True:=⟨⟩
theorem tw3750931249502371483:True:=⟨⟩
theorem tw8220659307457185236:True:=⟨⟩
theorem tw2275870095742530160:True:=⟨⟩
theorem tw5295645827596985607:True:=⟨⟩
theorem tw1533676587926167162:True:=⟨⟩
theorem tw55882314582653250:True:=⟨⟩
theorem tw2058325227620227729:True:=⟨⟩
theorem tw5535644500740523148:True:=⟨⟩
theorem tw939351321411375552:True:=⟨⟩
theorem tw13692478813566415433:True:=⟨⟩
theorem tw2932783430633423808:True:=⟨⟩
theorem tw82782767814899269:True:=⟨⟩
theorem tw6744127494741910720:True:=⟨⟩
theorem tw16261135524972137761:True:=⟨⟩
theorem tw3788779154322209913:True:=⟨⟩
theorem tw17986462924660939058:True:=⟨⟩
theorem tw9736170304816421552:True:=⟨⟩
theorem tw12364167834007365496:True:=⟨⟩
theorem tw9154452359158012786:True:=⟨⟩
theorem tw4575066808271845638:True:=⟨⟩
theorem tw8238852495415418381:True:=⟨⟩
theorem tw18446063050430351200:True:=⟨⟩
theorem tw309396761681244631:True:=⟨⟩
theorem tw15961304144398159461:True:=⟨⟩
theorem tw10996830159049409584:True:=⟨⟩
theorem tw11997800736559495030:True:=⟨⟩
theorem tw17634601461196563370:True:=⟨⟩
theorem tw12326541760742539022:True:=⟨⟩
theorem tw10385946199367290684:True:=⟨⟩
theorem tw17909584571431081520:True:=⟨⟩
theorem tw10941286114328570870:True:=⟨⟩
theorem tw10219975944243843304:True:=⟨⟩
theorem tw1198956537436317476:True:=⟨⟩
theorem tw9670051636338973654:True:=⟨⟩
theorem tw3053550307915164642:True:=⟨⟩
theorem tw3559075906349821385:True:=⟨⟩
theorem tw8396453170815801585:True:=⟨⟩
theorem tw13551482945593276861:True:=⟨⟩
theorem tw9876876888555802803:True:=⟨⟩
theorem tw422257846534588243:True:=⟨⟩
theorem tw17588863586106454810:True:=⟨⟩
theorem tw16168810888135880650:True:=⟨⟩
theorem tw17585528866169519883:True:=⟨⟩
theorem tw11520277655293700069:True:=⟨⟩
theorem tw12100543111453566348:True:=⟨⟩
theorem tw14484141954587010506:True:=⟨⟩
theorem tw8061645349174470841:True:=⟨⟩
theorem tw1968566863622828435:True:=⟨⟩
theorem tw1244005829727410989:True:=⟨⟩
theorem tw16326706702180623414:True:=⟨⟩
theorem tw466280572770520879:True:=⟨⟩
theorem tw3824538502030345703:True:=⟨⟩
theorem tw1833288430673393087:True:=⟨⟩
theorem tw1196618480777283431:True:=⟨⟩
theorem tw11503195923175545017:True:=⟨⟩
theorem tw7991301851074169556:True:=⟨⟩
theorem tw11569066536808478842:True:=⟨⟩
theorem tw2470430823092171873:True:=⟨⟩
theorem tw14193074817100519914:True:=⟨⟩
theorem tw928334604773628914:True:=⟨⟩
theorem tw16859688505153143422:True:=⟨⟩
theorem tw5004796406610034626:True:=⟨⟩
theorem tw5184879272039615078:True:=⟨⟩
theorem tw16186031106885191612:True:=⟨⟩
theorem tw9273728833028211454:True:=⟨⟩
theorem tw10749920939728603899:True:=⟨⟩
theorem tw2716637567765677643:True:=⟨⟩
theorem tw7927597614755979536:True:=⟨⟩
theorem tw15469565888524559559:True:=⟨⟩
theorem tw2429327048859280655:True:=⟨⟩
theorem tw13132952986474676581:True:=⟨⟩
theorem tw17678572213380180145:True:=⟨⟩
theorem tw7219461192766587667:True:=⟨⟩
theorem tw6173989143048135552:True:=⟨⟩
theorem tw15603035827333558096:True:=⟨⟩
theorem tw10743002237224484170:True:=⟨⟩
theorem tw12993281682715535596:True:=⟨⟩
theorem tw13280272352987942253:True:=⟨⟩
theorem tw8000963094909770229:True:=⟨⟩
theorem tw5912754616374657173:True:=⟨⟩
theorem tw8364487064226932580:True:=⟨⟩
theorem tw2532099402969718566:True:=⟨⟩
theorem tw9992293893376199216:True:=⟨⟩
theorem tw4420120610996082312:True:=⟨⟩
theorem tw14965429203673400592:True:=⟨⟩
theorem tw1358314747686890467:True:=⟨⟩
theorem tw2334136232375196956:True:=⟨⟩
theorem tw4534552432438967933:True:=⟨⟩
theorem tw7512035658470869622:True:=⟨⟩
theorem tw16088676508636644976:True:=⟨⟩
theorem tw8439520876569661622:True:=⟨⟩
theorem tw12966776310558499880:True:=⟨⟩
theorem tw17852141800151182958:True:=⟨⟩
theorem tw16370945453268670542:True:=⟨⟩
theorem tw14981897616380296927:True:=⟨⟩
theorem tw2598814350762203709:True:=⟨⟩
theorem tw3015862986572440770:True:=⟨⟩
theorem tw4839739361173072828:True:=⟨⟩
theorem tw13702103393953964637:True:=⟨⟩
theorem tw16329799511127266066:True:=⟨⟩
theorem tw582714629575209250:True:=⟨⟩
theorem tw15396530779336429250:True:=⟨⟩
theorem tw7072383523438391716:True:=⟨⟩
theorem tw10464313570335024270:True:=⟨⟩
theorem tw1344189047045784035:True:=⟨⟩
theorem tw18290278703168404298:True:=⟨⟩
theorem tw14828266156331300807:True:=⟨⟩
theorem tw10332851515575875818:True:=⟨⟩
theorem tw2673772628665981671:True:=⟨⟩
theorem tw15637222235052562384:True:=⟨⟩
theorem tw3227955484636346290:True:=⟨⟩
theorem tw7817550634454199057:True:=⟨⟩
theorem tw3281778864077428178:True:=⟨⟩
theorem tw3287220987826884841:True:=⟨⟩
theorem tw13992443826527791614:True:=⟨⟩
theorem tw378238727958925713:True:=⟨⟩
theorem tw3539940677563491404:True:=⟨⟩
theorem tw16661181765019924231:True:=⟨⟩
theorem tw17103909061452388374:True:=⟨⟩
theorem tw8668623736550335416:True:=⟨⟩
theorem tw89645477549145426:True:=⟨⟩
theorem tw4126403074685761060:True:=⟨⟩
theorem tw14083059100083222745:True:=⟨⟩
theorem tw3596904626867953435:True:=⟨⟩
theorem tw9655535067285407:True:=⟨⟩
theorem tw2812919951430176283:True:=⟨⟩
theorem tw1310361852110904431:True:=⟨⟩
theorem tw3357081570750467563:True:=⟨⟩
theorem tw6882059673139615088:True:=⟨⟩
theorem tw8843425971075069987:True:=⟨⟩
theorem tw13136523744691942704:True:=⟨⟩
theorem tw10433511040119516128:True:=⟨⟩
theorem tw10848131304811359081:True:=⟨⟩
theorem tw6013405901487464496:True:=⟨⟩
theorem tw16117583265787112069:True:=⟨⟩
theorem tw11244440802184784981:True:=⟨⟩
theorem tw2857181763160746980:True:=⟨⟩
theorem tw387495496861257881:True:=⟨⟩
theorem tw11129720755603039098:True:=⟨⟩
theorem tw17046572392719600684:True:=⟨⟩
theorem tw2094614336784735864:True:=⟨⟩
theorem tw3473310416556744893:True:=⟨⟩
theorem tw18154484613972564423:True:=⟨⟩
theorem tw2682781585129816679:True:=⟨⟩
theorem tw1271828960314260210:True:=⟨⟩
theorem tw16208320615511428213:True:=⟨⟩
theorem tw18040900833539293004:True:=⟨⟩
theorem tw13804974144190565463:True:=⟨⟩
theorem tw810069413466335712:True:=⟨⟩
theorem tw8098456516507511457:True:=⟨⟩
theorem tw9650784006538113935:True:=⟨⟩
theorem tw1789941470570784549:True:=⟨⟩
theorem tw5511493874570529376:True:=⟨⟩
theorem tw2536194400211884997:True:=⟨⟩
theorem tw1954635020949180041:True:=⟨⟩
theorem tw10080783463881310809:True:=⟨⟩
theorem tw12269882512662279170:True:=⟨⟩
theorem tw3958986057937911051:True:=⟨⟩
theorem tw1763219065592953350:True:=⟨⟩
theorem tw17896102437662664010:True:=⟨⟩
theorem tw1355091886583015762:True:=⟨⟩
theorem tw1062162046665227442:True:=⟨⟩
theorem tw7243709375976952989:True:=⟨⟩
theorem tw914557424050423960:True:=⟨⟩
theorem tw1631643184859893644:True:=⟨⟩
theorem tw5145146205266264642:True:=⟨⟩
theorem tw17258623366705979155:True:=⟨⟩
theorem tw7196377847057564693:True:=⟨⟩
theorem tw9103663150515421460:True:=⟨⟩
theorem tw14884678642281379599:True:=⟨⟩
theorem tw18154270614413065773:True:=⟨⟩
theorem tw5117070696727311095:True:=⟨⟩
theorem tw767187515033936134:True:=⟨⟩
theorem tw15485117425581947559:True:=⟨⟩
theorem tw16150426620019964786:True:=⟨⟩
theorem tw963154737236445268:True:=⟨⟩
theorem tw4597763108961643076:True:=⟨⟩
theorem tw948950064461193506:True:=⟨⟩
theorem tw7899208871018214983:True:=⟨⟩
theorem tw2987924670228474777:True:=⟨⟩
theorem tw15894422913385355425:True:=⟨⟩
theorem tw4421208615951415483:True:=⟨⟩
theorem tw5581179966020482010:True:=⟨⟩
theorem tw1584721216850261088:True:=⟨⟩
theorem tw7094464710207394955:True:=⟨⟩
theorem tw3212483151340946023:True:=⟨⟩
theorem tw11277487681919100579:True:=⟨⟩
theorem tw3925415563152898366:True:=⟨⟩
theorem tw13746730230334876949:True:=⟨⟩
theorem tw7891385152145129863:True:=⟨⟩
theorem tw6257905872744572130:True:=⟨⟩
theorem tw17688308558179506209:True:=⟨⟩
theorem tw15151579172444813627:True:=⟨⟩
theorem tw3490209833293643247:True:=⟨⟩
theorem tw1270365855077591233:True:=⟨⟩
theorem tw7261488250781638814:True:=⟨⟩
theorem tw17919358089971589321:True:=⟨⟩
theorem tw1364080972345967396:True:=⟨⟩
theorem tw10827593898134912623:True:=⟨⟩
theorem tw13131084346540422592:True:=⟨⟩
theorem tw14529256223244269387:True:=⟨⟩
theorem tw12530343680540338286:True:=⟨⟩
theorem tw2056529527712979636:True:=⟨⟩
theorem tw13341823670637595633:True:=⟨⟩
theorem tw550130595523321034:True:=⟨⟩
theorem tw8209914040832298706:True:=⟨⟩
theorem tw7980677269339615883:True:=⟨⟩
theorem tw8996462320198193688:True:=⟨⟩
theorem tw17310543043275982555:True:=⟨⟩
theorem tw2084277544805183031:True:=⟨⟩
theorem tw10828419376371183366:True:=⟨⟩
theorem tw6687203138300159166:True:=⟨⟩
theorem tw17247513426947979820:True:=⟨⟩
theorem tw3313357646519885870:True:=⟨⟩
theorem tw1103688616412197673:True:=⟨⟩
theorem tw14838007284720149571:True:=⟨⟩
theorem tw16084551033515161185:True:=⟨⟩
theorem tw17187680655913921826:True:=⟨⟩
theorem tw13333097333005395149:True:=⟨⟩
theorem tw1136164502262989754:True:=⟨⟩
theorem tw17110153662898614395:True:=⟨⟩
theorem tw7487704979374141908:True:=⟨⟩
theorem tw17483876067442801304:True:=⟨⟩
theorem tw4274173053765077151:True:=⟨⟩
theorem tw1438162875695930642:True:=⟨⟩
theorem tw15617325282290595321:True:=⟨⟩
theorem tw11934516521954826772:True:=⟨⟩
theorem tw796863329287084952:True:=⟨⟩
theorem tw9411375710099030273:True:=⟨⟩
theorem tw6775119895963865986:True:=⟨⟩
theorem tw6203684771660721554:True:=⟨⟩
theorem tw14257895767949765509:True:=⟨⟩
theorem tw12951662479054120111:True:=⟨⟩
theorem tw6204462165748421811:True:=⟨⟩
theorem tw10097287265469734620:True:=⟨⟩
theorem tw13109067408180219654:True:=⟨⟩
theorem tw9569359040023430887:True:=⟨⟩
theorem tw8752836929164232101:True:=⟨⟩
theorem tw2800813637037019629:True:=⟨⟩
theorem tw2891313744608985336:True:=⟨⟩
theorem tw6594106309262318567:True:=⟨⟩
theorem tw14581258097109150125:True:=⟨⟩
theorem tw3166966297435136104:True:=⟨⟩
theorem tw11629829796607951759:True:=⟨⟩
theorem tw10122702777826562494:True:=⟨⟩
theorem tw13023635605681047150:True:=⟨⟩
theorem tw5764890852847817209:True:=⟨⟩
theorem tw1192106230935290051:True:=⟨⟩
theorem tw2098799797110738962:True:=⟨⟩
theorem tw16063907670107812675:True:=⟨⟩
theorem tw2072863613087576419:True:=⟨⟩
theorem tw1437497350322932210:True:=⟨⟩
theorem tw5443785765287112203:True:=⟨⟩
theorem tw11555605443552050555:True:=⟨⟩
theorem tw4102183149572000010:True:=⟨⟩
theorem tw4271303211964250838:True:=⟨⟩
theorem tw3612966825772975280:True:=⟨⟩
theorem tw1761391825586015907:True:=⟨⟩
theorem tw4536799870348692960:True:=⟨⟩
theorem tw1254702710257784772:True:=⟨⟩
theorem tw9210352535884214588:True:=⟨⟩
theorem tw2175405504394616624:True:=⟨⟩
theorem tw11977949341423839423:True:=⟨⟩
theorem tw12514985430145820215:True:=⟨⟩
theorem tw287522208350511767:True:=⟨⟩
theorem tw7133916313103951095:True:=⟨⟩
theorem tw5810750057735454817:True:=⟨⟩
theorem tw3374304804791018895:True:=⟨⟩
theorem tw2123976372371829247:True:=⟨⟩
theorem tw15769722707396869713:True:=⟨⟩
theorem tw8557784880670567077:True:=⟨⟩
theorem tw7949757892891051433:True:=⟨⟩
theorem tw2241935599068175178:True:=⟨⟩
theorem tw10468773354239057751:True:=⟨⟩
theorem tw10051411822369987665:True:=⟨⟩
theorem tw12488496441372983465:True:=⟨⟩
theorem tw1037960854773306685:True:=⟨⟩
theorem tw13036317817867436124:True:=⟨⟩
theorem tw11689309850438709224:True:=⟨⟩
theorem tw2637931054685399558:True:=⟨⟩
theorem tw8954885322603408140:True:=⟨⟩
theorem tw5678808737840778546:True:=⟨⟩
theorem tw12260938677183504238:True:=⟨⟩
theorem tw11528605586924763801:True:=⟨⟩
theorem tw15749925753475049976:True:=⟨⟩
theorem tw246923278527586243:True:=⟨⟩
theorem tw10537672019079228244:True:=⟨⟩
theorem tw4445090172926771612:True:=⟨⟩
theorem tw4675685971011175723:True:=⟨⟩
theorem tw10293891447669738041:True:=⟨⟩
theorem tw13016129314816725064:True:=⟨⟩
theorem tw9444072381906417035:True:=⟨⟩
theorem tw3159319759081176792:True:=⟨⟩
theorem tw7264721071310814926:True:=⟨⟩
theorem tw3767903187893013144:True:=⟨⟩
theorem tw1391311040921256287:True:=⟨⟩
theorem tw15108353181617395434:True:=⟨⟩
theorem tw9901541392707222298:True:=⟨⟩
theorem tw16966281158407473308:True:=⟨⟩
theorem tw3428271613275499094:True:=⟨⟩
theorem tw8283352418995096443:True:=⟨⟩
theorem tw6625794540593274142:True:=⟨⟩
theorem tw17800180231765186166:True:=⟨⟩
theorem tw4405046248956578171:True:=⟨⟩
theorem tw4731789984221953159:True:=⟨⟩
theorem tw15386903145159629436:True:=⟨⟩
theorem tw6194700194301231496:True:=⟨⟩
theorem tw5584065514168029776:True:=⟨⟩
theorem tw17646989119031635671:True:=⟨⟩
theorem tw5727960341996625399:True:=⟨⟩
theorem tw17278179902760587108:True:=⟨⟩
theorem tw17998840358798607898:True:=⟨⟩
theorem tw13936606941820531651:True:=⟨⟩
theorem tw17970800112399900411:True:=⟨⟩
theorem tw7506604456428590737:True:=⟨⟩
theorem tw16812592310207233519:True:=⟨⟩
theorem tw18053052585435423294:True:=⟨⟩
theorem tw10036135529304850230:True:=⟨⟩
theorem tw8677821189670534354:True:=⟨⟩
theorem tw15825605143161302957:True:=⟨⟩
theorem tw1747128139710253164:True:=⟨⟩
theorem tw11823104348747432430:True:=⟨⟩
theorem tw694221127278170401:True:=⟨⟩
theorem tw5570277754188295414:True:=⟨⟩
theorem tw3254574211480117959:True:=⟨⟩
theorem tw3379058909691746265:True:=⟨⟩
theorem tw12850037933352870597:True:=⟨⟩
theorem tw2960401660023611960:True:=⟨⟩
theorem tw18131086517249756438:True:=⟨⟩
theorem tw13693199441603025196:True:=⟨⟩
theorem tw11752258008136740284:True:=⟨⟩
theorem tw7959152717228270020:True:=⟨⟩
theorem tw13375922333968858473:True:=⟨⟩
theorem tw4334857466873453965:True:=⟨⟩
theorem tw14766786326036685254:True:=⟨⟩
theorem tw2692684883651982186:True:=⟨⟩
theorem tw6699521363537351399:True:=⟨⟩
theorem tw3529105965490655500:True:=⟨⟩
theorem tw13786714963644688908:True:=⟨⟩
theorem tw1721099654117837597:True:=⟨⟩
theorem tw6803246442484833471:True:=⟨⟩
theorem tw7398720184142267504:True:=⟨⟩
theorem tw1435061276236983127:True:=⟨⟩
theorem tw12705116700109253531:True:=⟨⟩
theorem tw671145308901395526:True:=⟨⟩
theorem tw401129256992666335:True:=⟨⟩
theorem tw6674588482629161766:True:=⟨⟩
theorem tw14801835088391829883:True:=⟨⟩
theorem tw9864446382085404363:True:=⟨⟩
theorem tw5431104635932250221:True:=⟨⟩
theorem tw10987472152445764601:True:=⟨⟩
theorem tw451448171357171872:True:=⟨⟩
theorem tw15386920612954297358:True:=⟨⟩
theorem tw7030648885344790185:True:=⟨⟩
theorem tw8350676384548582251:True:=⟨⟩
theorem tw10233066631866356963:True:=⟨⟩
theorem tw5540332114883287805:True:=⟨⟩
theorem tw3802720210408494844:True:=⟨⟩
theorem tw17556750205372063409:True:=⟨⟩
theorem tw4827335049119956385:True:=⟨⟩
theorem tw2678161451209850468:True:=⟨⟩
theorem tw5941354948321337599:True:=⟨⟩
theorem tw8777089851309862706:True:=⟨⟩
theorem tw12438216147464915526:True:=⟨⟩
theorem tw11128486066011651071:True:=⟨⟩
theorem tw13624592924664973066:True:=⟨⟩
theorem tw10974454312255930721:True:=⟨⟩
theorem tw1084017809803023645:True:=⟨⟩
theorem tw16103826246540954244:True:=⟨⟩
theorem tw9996636579599569629:True:=⟨⟩
theorem tw14943749586885335857:True:=⟨⟩
theorem tw16860192656240159136:True:=⟨⟩
theorem tw13209723883450484719:True:=⟨⟩
theorem tw7650796500774154637:True:=⟨⟩
theorem tw16584675166743744708:True:=⟨⟩
theorem tw12457662116949164229:True:=⟨⟩
theorem tw5567819267387575238:True:=⟨⟩
theorem tw3447561681192858519:True:=⟨⟩
theorem tw5166600287736327671:True:=⟨⟩
theorem tw3116064466933423291:True:=⟨⟩
theorem tw17422558841237689841:True:=⟨⟩
theorem tw8150409416688201814:True:=⟨⟩
theorem tw12102222601755372098:True:=⟨⟩
theorem tw14997941254723572060:True:=⟨⟩
theorem tw18372735493555944105:True:=⟨⟩
theorem tw2266995043860286570:True:=⟨⟩
theorem tw6713882086567884472:True:=⟨⟩
theorem tw11310285239397322721:True:=⟨⟩
theorem tw9357161574408905095:True:=⟨⟩
theorem tw14538997450787343944:True:=⟨⟩
theorem tw18040352687415997256:True:=⟨⟩
theorem tw5964876520531615708:True:=⟨⟩
theorem tw17359474234578912106:True:=⟨⟩
theorem tw916341849269017823:True:=⟨⟩
theorem tw10917583242165899411:True:=⟨⟩
theorem tw4996411788717838560:True:=⟨⟩
theorem tw10375870565801206686:True:=⟨⟩
theorem tw8862200344012476981:True:=⟨⟩
theorem tw361232194742286510:True:=⟨⟩
theorem tw8814178807563912207:True:=⟨⟩
theorem tw5422963439613132218:True:=⟨⟩
theorem tw14432937613902362027:True:=⟨⟩
theorem tw736978620297875743:True:=⟨⟩
theorem tw1108292005574435195:True:=⟨⟩
theorem tw2072485652923733278:True:=⟨⟩
theorem tw1222616199725103781:True:=⟨⟩
theorem tw4693363979897340559:True:=⟨⟩
theorem tw15652023976490051052:True:=⟨⟩
theorem tw1237989257364293753:True:=⟨⟩
theorem tw6610268898776546117:True:=⟨⟩
theorem tw17772924688778777510:True:=⟨⟩
theorem tw1459758042854094424:True:=⟨⟩
theorem tw2086877114813767752:True:=⟨⟩
theorem tw10587214741807096967:True:=⟨⟩
theorem tw11087233155840562569:True:=⟨⟩
theorem tw15410565789988326027:True:=⟨⟩
theorem tw214644359883845844:True:=⟨⟩
theorem tw456129299196041459:True:=⟨⟩
theorem tw9892747295628251104:True:=⟨⟩
theorem tw5221041839236479779:True:=⟨⟩
theorem tw9881414309033013867:True:=⟨⟩
theorem tw6560014832790757063:True:=⟨⟩
theorem tw7875468858703936731:True:=⟨⟩
theorem tw2841361868419384688:True:=⟨⟩
theorem tw1339169064786738195:True:=⟨⟩
theorem tw10298504132475144963:True:=⟨⟩
theorem tw8681104190919534556:True:=⟨⟩
theorem tw15592491869244774610:True:=⟨⟩
theorem tw14798795117759363209:True:=⟨⟩
theorem tw12275215705508182972:True:=⟨⟩
theorem tw14683057100718726717:True:=⟨⟩
theorem tw11256095388506416049:True:=⟨⟩
theorem tw16554760257736067571:True:=⟨⟩
theorem tw909301431578218717:True:=⟨⟩
theorem tw482185622959058930:True:=⟨⟩
theorem tw9386140692856274783:True:=⟨⟩
theorem tw10104520229369594401:True:=⟨⟩
theorem tw4216368167619402352:True:=⟨⟩
theorem tw2254814196760160794:True:=⟨⟩
theorem tw5584206716251396859:True:=⟨⟩
theorem tw9020942146996324658:True:=⟨⟩
theorem tw13295557012192863243:True:=⟨⟩
theorem tw551108627383496924:True:=⟨⟩
theorem tw1928401117177807837:True:=⟨⟩
theorem tw2886596266942479300:True:=⟨⟩
theorem tw3024069260545617956:True:=⟨⟩
theorem tw18028187158460042449:True:=⟨⟩
theorem tw17519929982346115987:True:=⟨⟩
theorem tw8266470476085143987:True:=⟨⟩
theorem tw12947877823156962566:True:=⟨⟩
theorem tw3195020121524035577:True:=⟨⟩
theorem tw10425098843068380181:True:=⟨⟩
theorem tw7260227599800000266:True:=⟨⟩
theorem tw6292055691222163549:True:=⟨⟩
theorem tw6852931368036063090:True:=⟨⟩
theorem tw1740255055400576495:True:=⟨⟩
theorem tw13452366607258245616:True:=⟨⟩
theorem tw3975252560415693152:True:=⟨⟩
theorem tw10622479884731071122:True:=⟨⟩
theorem tw17643492574672079975:True:=⟨⟩
theorem tw13991720981297203910:True:=⟨⟩
theorem tw17247790968921962706:True:=⟨⟩
theorem tw15299574072713859844:True:=⟨⟩
theorem tw1275954600497843094:True:=⟨⟩
theorem tw3431959493290629947:True:=⟨⟩
theorem tw17648162190992868131:True:=⟨⟩
theorem tw16125174115916070260:True:=⟨⟩
theorem tw1696137244202323623:True:=⟨⟩
theorem tw4801255375758628516:True:=⟨⟩
theorem tw2041064256798947741:True:=⟨⟩
theorem tw14503121167430441791:True:=⟨⟩
theorem tw15533094277556390952:True:=⟨⟩
theorem tw16636192531268956172:True:=⟨⟩
theorem tw1683583005350219759:True:=⟨⟩
theorem tw10549715820851485709:True:=⟨⟩
theorem tw4859014855668722546:True:=⟨⟩
theorem tw2352901926878662672:True:=⟨⟩
theorem tw7918414972777368219:True:=⟨⟩
theorem tw9364816393309540940:True:=⟨⟩
theorem tw11467799210841873063:True:=⟨⟩
theorem tw1221288873518311983:True:=⟨⟩
theorem tw1943316009906261103:True:=⟨⟩
theorem tw12007612808024705020:True:=⟨⟩
theorem tw14938112589506188534:True:=⟨⟩
theorem tw17213111591912947041:True:=⟨⟩
theorem tw12902880417554585013:True:=⟨⟩
end PySem.W.Fast
open PySem PySem.W PyProof.Rows
set_option maxRecDepth 100000 in
set_option maxHeartbeats 0 in
theorem PySem.Challenge.cw_checkedformats_s01_answers_holds : PySem.Challenge.rw_checkedformats_s01_answers.Holds := by
 w_on;k_headS;(case hw=>exact ⟨[.list [.int 2]],by decide +kernel,by decide +kernel⟩)
 k_fillS
 refine L2.walk_specK (r:=PySem.Challenge.rw_checkedformats_s01_answers) (k:=13) (CX:=L2.CX0) (ps:=["calls"]) (sp:=Fm.spAnswers) (by decide +kernel) rfl rfl ⟨rfl,by decide,by decide⟩ (fun w h Y=>PySem.W.kIn_of Y) ?F ?S (fun _ _ _ _ z=>z)
 case F=>
  intro w mg fa h Y KX G hmg
  refine' Fm.all_mk KX G hmg ?h_k_Amount ?h_n_ca_present ?h_n_ca_star ?h_n_ca_number ?h_n_ca_argument ?h_k_Directive ?h_n_cd_place ?h_n_cd_size ?h_n_cd_by_number ?h_n_cd_argument ?h_n_cd_flags ?h_n_cd_width ?h_n_cd_precision ?h_n_cd_length ?h_n_cd_conversion ?h_k_Scanner ?h_n_cs_row ?h_n_cs_place ?h_n_cs_at ?h_k_Format ?h_n_cf_row ?h_n_cf_directives ?h_n_cf_kinds ?h_k_Argument ?h_n_cg_kind ?h_n_cg_size ?h_n_cg_value ?h_k_Field ?h_n_ce_before ?h_n_ce_body ?h_k_Desk ?h_n_ck_current ?h_k_CallReader ?h_n_cr_numbers ?h_n_cr_at ?h_m_Amount_init ?h_m_Directive_init ?h_m_Scanner_init ?h_m_Scanner_peek ?h_m_Scanner_take ?h_m_Format_init ?h_m_Format_highest_argument ?h_m_Format_kind_of ?h_m_Format_directive_at ?h_m_Argument_init ?h_m_Field_init ?h_m_Desk_init ?h_m_Desk_held ?h_m_CallReader_init ?h_m_CallReader_at_end ?h_m_CallReader_take ?h_m_CallReader_take_row ?h_d_own_kind ?h_d_taken_pairs ?h_d_stars ?h_d_is_right ?h_d_sign_flags_fit ?h_d_zero_fits ?h_d_hash_fits ?h_d_precision_fits ?h_d_length_fits ?h_d_stars_fit ?h_d_is_digit ?h_d_scan_number ?h_d_scan_argument ?h_d_argument_is_next ?h_d_scan_flags ?h_d_scan_star ?h_d_scan_written ?h_d_scan_width ?h_d_scan_precision ?h_d_scan_length ?h_d_scan_conversion ?h_d_scan_directive ?h_d_read_format ?h_d_read_directive ?h_d_add_directive ?h_d_fits_in ?h_d_number_in_order ?h_d_least_difference ?h_d_first_misuse ?h_d_first_not_taken ?h_d_unsigned_number ?h_d_signed_number ?h_d_digit_sign ?h_d_digits_of ?h_d_read_arguments ?h_d_check_arguments ?h_d_asked_amount ?h_d_render ?h_d_plain_bytes ?h_d_field_of ?h_d_asked_precision ?h_d_shown_text ?h_d_signed_field ?h_d_sign_of ?h_d_unsigned_field ?h_d_widened ?h_d_answer_parse ?h_d_answer_write ?h_d_answer_count ?h_d_answer_highest ?h_d_answer_kind ?h_d_answer_directive ?h_d_answer_check ?h_d_answer_same ?h_d_answer_render ?h_d_answer_call ?h_d_answers ?h_x_NoFormat ?h_x_WrongFormat ?h_x_WrongArguments ?h_x_NoDirective ?h_x_WrongAmount ?h_m_WrongFormat_init ?h_o_WrongFormat ?h_o_NoFormat ?h_o_WrongArguments ?h_o_NoDirective ?h_o_WrongAmount ?h_o_set ?h_o_place ?h_xget ?h_s11 ?h_s21 ?h_s22 ?h_s31 ?h_s32 ?h_s33 ?h_s41 ?h_s42 ?h_s43 ?h_s44 ?h_s51 ?h_s52 ?h_s53 ?h_s54 ?h_s55 ?h_gPERCENT ?h_gDOLLAR ?h_gSTAR ?h_gPOINT ?h_gMINUS ?h_gPLUS ?h_gBLANK ?h_gZERO ?h_gHASH ?h_gNINE ?h_gLITTLE_A ?h_gBIG_A ?h_gLETTER_O ?h_gLETTER_BIG_X ?h_gLETTER_C ?h_gLETTER_S ?h_gSIGNED_32 ?h_gUNSIGNED_32 ?h_gSIGNED_64 ?h_gUNSIGNED_64 ?h_gTEXT ?h_gHIGHEST_ARGUMENT ?h_gHIGHEST_AMOUNT ?h_gEND ?h_gMOST_DIRECTIVES ?h_gMISSING ?h_gOTHER_KIND ?h_gNOT_TAKEN ?h_gFLAGS ?h_gSIGNED ?h_gUNSIGNED ?h_gBASED ?h_gNUMERIC ?h_gCONVERSIONS ?h_gDOUBLED_LENGTHS ?h_gLONG_LENGTHS ?h_z_len ?h_z_list ?h_z_max ?h_z_min ?h_z_abs ?h_z_range ?h_z_enumerate ?h_z_reversed ?h_z_Exception ?h_gLENGTHS ?h_gBASES ?h_gSPANS ?h_gANSWERERS
  (case h_k_Amount=>(refine' Fm.cls_at ?a ?pg ?hd ?po ?sa ?mk ?kc;(case a=>k_is);(case pg=>k_is);(case hd=>k_is);(case po=>k_is);(case sa=>k_is);(case mk=>k_is);(case kc=>k_is)))
  (case h_n_ca_present=>(unfold L2.NoAttr;k_is))
  (case h_n_ca_star=>(unfold L2.NoAttr;k_is))
  (case h_n_ca_number=>(unfold L2.NoAttr;k_is))
  (case h_n_ca_argument=>(unfold L2.NoAttr;k_is))
  (case h_k_Directive=>(refine' Fm.cls_at ?a ?pg ?hd ?po ?sa ?mk ?kc;(case a=>k_is);(case pg=>k_is);(case hd=>k_is);(case po=>k_is);(case sa=>k_is);(case mk=>k_is);(case kc=>k_is)))
  (case h_n_cd_place=>(unfold L2.NoAttr;k_is))
  (case h_n_cd_size=>(unfold L2.NoAttr;k_is))
  (case h_n_cd_by_number=>(unfold L2.NoAttr;k_is))
  (case h_n_cd_argument=>(unfold L2.NoAttr;k_is))
  (case h_n_cd_flags=>(unfold L2.NoAttr;k_is))
  (case h_n_cd_width=>(unfold L2.NoAttr;k_is))
  (case h_n_cd_precision=>(unfold L2.NoAttr;k_is))
  (case h_n_cd_length=>(unfold L2.NoAttr;k_is))
  (case h_n_cd_conversion=>(unfold L2.NoAttr;k_is))
  (case h_k_Scanner=>(refine' Fm.cls_at ?a ?pg ?hd ?po ?sa ?mk ?kc;(case a=>k_is);(case pg=>k_is);(case hd=>k_is);(case po=>k_is);(case sa=>k_is);(case mk=>k_is);(case kc=>k_is)))
  (case h_n_cs_row=>(unfold L2.NoAttr;k_is))
  (case h_n_cs_place=>(unfold L2.NoAttr;k_is))
  (case h_n_cs_at=>(unfold L2.NoAttr;k_is))
  (case h_k_Format=>(refine' Fm.cls_at ?a ?pg ?hd ?po ?sa ?mk ?kc;(case a=>k_is);(case pg=>k_is);(case hd=>k_is);(case po=>k_is);(case sa=>k_is);(case mk=>k_is);(case kc=>k_is)))
  (case h_n_cf_row=>(unfold L2.NoAttr;k_is))
  (case h_n_cf_directives=>(unfold L2.NoAttr;k_is))
  (case h_n_cf_kinds=>(unfold L2.NoAttr;k_is))
  (case h_k_Argument=>(refine' Fm.cls_at ?a ?pg ?hd ?po ?sa ?mk ?kc;(case a=>k_is);(case pg=>k_is);(case hd=>k_is);(case po=>k_is);(case sa=>k_is);(case mk=>k_is);(case kc=>k_is)))
  (case h_n_cg_kind=>(unfold L2.NoAttr;k_is))
  (case h_n_cg_size=>(unfold L2.NoAttr;k_is))
  (case h_n_cg_value=>(unfold L2.NoAttr;k_is))
  (case h_k_Field=>(refine' Fm.cls_at ?a ?pg ?hd ?po ?sa ?mk ?kc;(case a=>k_is);(case pg=>k_is);(case hd=>k_is);(case po=>k_is);(case sa=>k_is);(case mk=>k_is);(case kc=>k_is)))
  (case h_n_ce_before=>(unfold L2.NoAttr;k_is))
  (case h_n_ce_body=>(unfold L2.NoAttr;k_is))
  (case h_k_Desk=>(refine' Fm.cls_at ?a ?pg ?hd ?po ?sa ?mk ?kc;(case a=>k_is);(case pg=>k_is);(case hd=>k_is);(case po=>k_is);(case sa=>k_is);(case mk=>k_is);(case kc=>k_is)))
  (case h_n_ck_current=>(unfold L2.NoAttr;k_is))
  (case h_k_CallReader=>(refine' Fm.cls_at ?a ?pg ?hd ?po ?sa ?mk ?kc;(case a=>k_is);(case pg=>k_is);(case hd=>k_is);(case po=>k_is);(case sa=>k_is);(case mk=>k_is);(case kc=>k_is)))
  (case h_n_cr_numbers=>(unfold L2.NoAttr;k_is))
  (case h_n_cr_at=>(unfold L2.NoAttr;k_is))
  (case h_m_Amount_init=>(refine' Fm.meth_at ?a ?i ?l ?c ?k;(case a=>k_is);(case i=>k_is);(case l=>k_is);(case c=>k_is);(case k=>k_is)))
  (case h_m_Directive_init=>(refine' Fm.meth_at ?a ?i ?l ?c ?k;(case a=>k_is);(case i=>k_is);(case l=>k_is);(case c=>k_is);(case k=>k_is)))
  (case h_m_Scanner_init=>(refine' Fm.meth_at ?a ?i ?l ?c ?k;(case a=>k_is);(case i=>k_is);(case l=>k_is);(case c=>k_is);(case k=>k_is)))
  (case h_m_Scanner_peek=>(refine' Fm.meth_at ?a ?i ?l ?c ?k;(case a=>k_is);(case i=>k_is);(case l=>k_is);(case c=>k_is);(case k=>k_is)))
  (case h_m_Scanner_take=>(refine' Fm.meth_at ?a ?i ?l ?c ?k;(case a=>k_is);(case i=>k_is);(case l=>k_is);(case c=>k_is);(case k=>k_is)))
  (case h_m_Format_init=>(refine' Fm.meth_at ?a ?i ?l ?c ?k;(case a=>k_is);(case i=>k_is);(case l=>k_is);(case c=>k_is);(case k=>k_is)))
  (case h_m_Format_highest_argument=>(refine' Fm.meth_at ?a ?i ?l ?c ?k;(case a=>k_is);(case i=>k_is);(case l=>k_is);(case c=>k_is);(case k=>k_is)))
  (case h_m_Format_kind_of=>(refine' Fm.meth_at ?a ?i ?l ?c ?k;(case a=>k_is);(case i=>k_is);(case l=>k_is);(case c=>k_is);(case k=>k_is)))
  (case h_m_Format_directive_at=>(refine' Fm.meth_at ?a ?i ?l ?c ?k;(case a=>k_is);(case i=>k_is);(case l=>k_is);(case c=>k_is);(case k=>k_is)))
  (case h_m_Argument_init=>(refine' Fm.meth_at ?a ?i ?l ?c ?k;(case a=>k_is);(case i=>k_is);(case l=>k_is);(case c=>k_is);(case k=>k_is)))
  (case h_m_Field_init=>(refine' Fm.meth_at ?a ?i ?l ?c ?k;(case a=>k_is);(case i=>k_is);(case l=>k_is);(case c=>k_is);(case k=>k_is)))
  (case h_m_Desk_init=>(refine' Fm.meth_at ?a ?i ?l ?c ?k;(case a=>k_is);(case i=>k_is);(case l=>k_is);(case c=>k_is);(case k=>k_is)))
  (case h_m_Desk_held=>(refine' Fm.meth_at ?a ?i ?l ?c ?k;(case a=>k_is);(case i=>k_is);(case l=>k_is);(case c=>k_is);(case k=>k_is)))
  (case h_m_CallReader_init=>(refine' Fm.meth_at ?a ?i ?l ?c ?k;(case a=>k_is);(case i=>k_is);(case l=>k_is);(case c=>k_is);(case k=>k_is)))
  (case h_m_CallReader_at_end=>(refine' Fm.meth_at ?a ?i ?l ?c ?k;(case a=>k_is);(case i=>k_is);(case l=>k_is);(case c=>k_is);(case k=>k_is)))
  (case h_m_CallReader_take=>(refine' Fm.meth_at ?a ?i ?l ?c ?k;(case a=>k_is);(case i=>k_is);(case l=>k_is);(case c=>k_is);(case k=>k_is)))
  (case h_m_CallReader_take_row=>(refine' Fm.meth_at ?a ?i ?l ?c ?k;(case a=>k_is);(case i=>k_is);(case l=>k_is);(case c=>k_is);(case k=>k_is)))
  (case h_d_own_kind=>(refine' Fm.def_at ?a ?l ?c ?k;(case a=>k_is);(case l=>k_is);(case c=>k_is);(case k=>k_is)))
  (case h_d_taken_pairs=>(refine' Fm.def_at ?a ?l ?c ?k;(case a=>k_is);(case l=>k_is);(case c=>k_is);(case k=>k_is)))
  (case h_d_stars=>(refine' Fm.def_at ?a ?l ?c ?k;(case a=>k_is);(case l=>k_is);(case c=>k_is);(case k=>k_is)))
  (case h_d_is_right=>(refine' Fm.def_at ?a ?l ?c ?k;(case a=>k_is);(case l=>k_is);(case c=>k_is);(case k=>k_is)))
  (case h_d_sign_flags_fit=>(refine' Fm.def_at ?a ?l ?c ?k;(case a=>k_is);(case l=>k_is);(case c=>k_is);(case k=>k_is)))
  (case h_d_zero_fits=>(refine' Fm.def_at ?a ?l ?c ?k;(case a=>k_is);(case l=>k_is);(case c=>k_is);(case k=>k_is)))
  (case h_d_hash_fits=>(refine' Fm.def_at ?a ?l ?c ?k;(case a=>k_is);(case l=>k_is);(case c=>k_is);(case k=>k_is)))
  (case h_d_precision_fits=>(refine' Fm.def_at ?a ?l ?c ?k;(case a=>k_is);(case l=>k_is);(case c=>k_is);(case k=>k_is)))
  (case h_d_length_fits=>(refine' Fm.def_at ?a ?l ?c ?k;(case a=>k_is);(case l=>k_is);(case c=>k_is);(case k=>k_is)))
  (case h_d_stars_fit=>(refine' Fm.def_at ?a ?l ?c ?k;(case a=>k_is);(case l=>k_is);(case c=>k_is);(case k=>k_is)))
  (case h_d_is_digit=>(refine' Fm.def_at ?a ?l ?c ?k;(case a=>k_is);(case l=>k_is);(case c=>k_is);(case k=>k_is)))
  (case h_d_scan_number=>(refine' Fm.def_at ?a ?l ?c ?k;(case a=>k_is);(case l=>k_is);(case c=>k_is);(case k=>k_is)))
  (case h_d_scan_argument=>(refine' Fm.def_at ?a ?l ?c ?k;(case a=>k_is);(case l=>k_is);(case c=>k_is);(case k=>k_is)))
  (case h_d_argument_is_next=>(refine' Fm.def_at ?a ?l ?c ?k;(case a=>k_is);(case l=>k_is);(case c=>k_is);(case k=>k_is)))
  (case h_d_scan_flags=>(refine' Fm.def_at ?a ?l ?c ?k;(case a=>k_is);(case l=>k_is);(case c=>k_is);(case k=>k_is)))
  (case h_d_scan_star=>(refine' Fm.def_at ?a ?l ?c ?k;(case a=>k_is);(case l=>k_is);(case c=>k_is);(case k=>k_is)))
  (case h_d_scan_written=>(refine' Fm.def_at ?a ?l ?c ?k;(case a=>k_is);(case l=>k_is);(case c=>k_is);(case k=>k_is)))
  (case h_d_scan_width=>(refine' Fm.def_at ?a ?l ?c ?k;(case a=>k_is);(case l=>k_is);(case c=>k_is);(case k=>k_is)))
  (case h_d_scan_precision=>(refine' Fm.def_at ?a ?l ?c ?k;(case a=>k_is);(case l=>k_is);(case c=>k_is);(case k=>k_is)))
  (case h_d_scan_length=>(refine' Fm.def_at ?a ?l ?c ?k;(case a=>k_is);(case l=>k_is);(case c=>k_is);(case k=>k_is)))
  (case h_d_scan_conversion=>(refine' Fm.def_at ?a ?l ?c ?k;(case a=>k_is);(case l=>k_is);(case c=>k_is);(case k=>k_is)))
  (case h_d_scan_directive=>(refine' Fm.def_at ?a ?l ?c ?k;(case a=>k_is);(case l=>k_is);(case c=>k_is);(case k=>k_is)))
  (case h_d_read_format=>(refine' Fm.def_at ?a ?l ?c ?k;(case a=>k_is);(case l=>k_is);(case c=>k_is);(case k=>k_is)))
  (case h_d_read_directive=>(refine' Fm.def_at ?a ?l ?c ?k;(case a=>k_is);(case l=>k_is);(case c=>k_is);(case k=>k_is)))
  (case h_d_add_directive=>(refine' Fm.def_at ?a ?l ?c ?k;(case a=>k_is);(case l=>k_is);(case c=>k_is);(case k=>k_is)))
  (case h_d_fits_in=>(refine' Fm.def_at ?a ?l ?c ?k;(case a=>k_is);(case l=>k_is);(case c=>k_is);(case k=>k_is)))
  (case h_d_number_in_order=>(refine' Fm.def_at ?a ?l ?c ?k;(case a=>k_is);(case l=>k_is);(case c=>k_is);(case k=>k_is)))
  (case h_d_least_difference=>(refine' Fm.def_at ?a ?l ?c ?k;(case a=>k_is);(case l=>k_is);(case c=>k_is);(case k=>k_is)))
  (case h_d_first_misuse=>(refine' Fm.def_at ?a ?l ?c ?k;(case a=>k_is);(case l=>k_is);(case c=>k_is);(case k=>k_is)))
  (case h_d_first_not_taken=>(refine' Fm.def_at ?a ?l ?c ?k;(case a=>k_is);(case l=>k_is);(case c=>k_is);(case k=>k_is)))
  (case h_d_unsigned_number=>(refine' Fm.def_at ?a ?l ?c ?k;(case a=>k_is);(case l=>k_is);(case c=>k_is);(case k=>k_is)))
  (case h_d_signed_number=>(refine' Fm.def_at ?a ?l ?c ?k;(case a=>k_is);(case l=>k_is);(case c=>k_is);(case k=>k_is)))
  (case h_d_digit_sign=>(refine' Fm.def_at ?a ?l ?c ?k;(case a=>k_is);(case l=>k_is);(case c=>k_is);(case k=>k_is)))
  (case h_d_digits_of=>(refine' Fm.def_at ?a ?l ?c ?k;(case a=>k_is);(case l=>k_is);(case c=>k_is);(case k=>k_is)))
  (case h_d_read_arguments=>(refine' Fm.def_at ?a ?l ?c ?k;(case a=>k_is);(case l=>k_is);(case c=>k_is);(case k=>k_is)))
  (case h_d_check_arguments=>(refine' Fm.def_at ?a ?l ?c ?k;(case a=>k_is);(case l=>k_is);(case c=>k_is);(case k=>k_is)))
  (case h_d_asked_amount=>(refine' Fm.def_at ?a ?l ?c ?k;(case a=>k_is);(case l=>k_is);(case c=>k_is);(case k=>k_is)))
  (case h_d_render=>(refine' Fm.def_at ?a ?l ?c ?k;(case a=>k_is);(case l=>k_is);(case c=>k_is);(case k=>k_is)))
  (case h_d_plain_bytes=>(refine' Fm.def_at ?a ?l ?c ?k;(case a=>k_is);(case l=>k_is);(case c=>k_is);(case k=>k_is)))
  (case h_d_field_of=>(refine' Fm.def_at ?a ?l ?c ?k;(case a=>k_is);(case l=>k_is);(case c=>k_is);(case k=>k_is)))
  (case h_d_asked_precision=>(refine' Fm.def_at ?a ?l ?c ?k;(case a=>k_is);(case l=>k_is);(case c=>k_is);(case k=>k_is)))
  (case h_d_shown_text=>(refine' Fm.def_at ?a ?l ?c ?k;(case a=>k_is);(case l=>k_is);(case c=>k_is);(case k=>k_is)))
  (case h_d_signed_field=>(refine' Fm.def_at ?a ?l ?c ?k;(case a=>k_is);(case l=>k_is);(case c=>k_is);(case k=>k_is)))
  (case h_d_sign_of=>(refine' Fm.def_at ?a ?l ?c ?k;(case a=>k_is);(case l=>k_is);(case c=>k_is);(case k=>k_is)))
  (case h_d_unsigned_field=>(refine' Fm.def_at ?a ?l ?c ?k;(case a=>k_is);(case l=>k_is);(case c=>k_is);(case k=>k_is)))
  (case h_d_widened=>(refine' Fm.def_at ?a ?l ?c ?k;(case a=>k_is);(case l=>k_is);(case c=>k_is);(case k=>k_is)))
  (case h_d_answer_parse=>(refine' Fm.def_at ?a ?l ?c ?k;(case a=>k_is);(case l=>k_is);(case c=>k_is);(case k=>k_is)))
  (case h_d_answer_write=>(refine' Fm.def_at ?a ?l ?c ?k;(case a=>k_is);(case l=>k_is);(case c=>k_is);(case k=>k_is)))
  (case h_d_answer_count=>(refine' Fm.def_at ?a ?l ?c ?k;(case a=>k_is);(case l=>k_is);(case c=>k_is);(case k=>k_is)))
  (case h_d_answer_highest=>(refine' Fm.def_at ?a ?l ?c ?k;(case a=>k_is);(case l=>k_is);(case c=>k_is);(case k=>k_is)))
  (case h_d_answer_kind=>(refine' Fm.def_at ?a ?l ?c ?k;(case a=>k_is);(case l=>k_is);(case c=>k_is);(case k=>k_is)))
  (case h_d_answer_directive=>(refine' Fm.def_at ?a ?l ?c ?k;(case a=>k_is);(case l=>k_is);(case c=>k_is);(case k=>k_is)))
  (case h_d_answer_check=>(refine' Fm.def_at ?a ?l ?c ?k;(case a=>k_is);(case l=>k_is);(case c=>k_is);(case k=>k_is)))
  (case h_d_answer_same=>(refine' Fm.def_at ?a ?l ?c ?k;(case a=>k_is);(case l=>k_is);(case c=>k_is);(case k=>k_is)))
  (case h_d_answer_render=>(refine' Fm.def_at ?a ?l ?c ?k;(case a=>k_is);(case l=>k_is);(case c=>k_is);(case k=>k_is)))
  (case h_d_answer_call=>(refine' Fm.def_at ?a ?l ?c ?k;(case a=>k_is);(case l=>k_is);(case c=>k_is);(case k=>k_is)))
  (case h_d_answers=>(refine' Fm.def_at ?a ?l ?c ?k;(case a=>k_is);(case l=>k_is);(case c=>k_is);(case k=>k_is)))
  (case h_x_NoFormat=>(refine' Fm.xc_at ?a (Fm.xtext ?l ?l2 ?hs) ?kp ?ic ?ty ?sb;(case a=>k_is);(case l=>k_is);(case l2=>k_is);(case hs=>rfl);(case kp=>k_is);(case ic=>k_is);(case ty=>k_is);(case sb=>k_is)))
  (case h_x_WrongFormat=>(refine' Fm.xc_at ?a (Fm.xtext ?l ?l2 ?hs) ?kp ?ic ?ty ?sb;(case a=>k_is);(case l=>k_is);(case l2=>k_is);(case hs=>rfl);(case kp=>k_is);(case ic=>k_is);(case ty=>k_is);(case sb=>k_is)))
  (case h_x_WrongArguments=>(refine' Fm.xc_at ?a (Fm.xtext ?l ?l2 ?hs) ?kp ?ic ?ty ?sb;(case a=>k_is);(case l=>k_is);(case l2=>k_is);(case hs=>rfl);(case kp=>k_is);(case ic=>k_is);(case ty=>k_is);(case sb=>k_is)))
  (case h_x_NoDirective=>(refine' Fm.xc_at ?a (Fm.xtext ?l ?l2 ?hs) ?kp ?ic ?ty ?sb;(case a=>k_is);(case l=>k_is);(case l2=>k_is);(case hs=>rfl);(case kp=>k_is);(case ic=>k_is);(case ty=>k_is);(case sb=>k_is)))
  (case h_x_WrongAmount=>(refine' Fm.xc_at ?a (Fm.xtext ?l ?l2 ?hs) ?kp ?ic ?ty ?sb;(case a=>k_is);(case l=>k_is);(case l2=>k_is);(case hs=>rfl);(case kp=>k_is);(case ic=>k_is);(case ty=>k_is);(case sb=>k_is)))
  (case h_m_WrongFormat_init=>(refine' Fm.meth_at ?a ?i ?l ?c ?k;(case a=>k_is);(case i=>k_is);(case l=>k_is);(case c=>k_is);(case k=>k_is)))
  (case h_o_WrongFormat=>(refine' Fm.own_at (Fm.xtext ?l ?l2 ?hs) ?e;(case l=>k_is);(case l2=>k_is);(case hs=>rfl);(case e=>k_is)))
  (case h_o_NoFormat=>(refine' Fm.own_at (Fm.xtext ?l ?l2 ?hs) ?e;(case l=>k_is);(case l2=>k_is);(case hs=>rfl);(case e=>k_is)))
  (case h_o_WrongArguments=>(refine' Fm.own_at (Fm.xtext ?l ?l2 ?hs) ?e;(case l=>k_is);(case l2=>k_is);(case hs=>rfl);(case e=>k_is)))
  (case h_o_NoDirective=>(refine' Fm.own_at (Fm.xtext ?l ?l2 ?hs) ?e;(case l=>k_is);(case l2=>k_is);(case hs=>rfl);(case e=>k_is)))
  (case h_o_WrongAmount=>(refine' Fm.own_at (Fm.xtext ?l ?l2 ?hs) ?e;(case l=>k_is);(case l2=>k_is);(case hs=>rfl);(case e=>k_is)))
  (case h_o_set=>(refine' Fm.own_at (Fm.xtext ?l ?l2 ?hs) ?e;(case l=>k_is);(case l2=>k_is);(case hs=>rfl);(case e=>k_is)))
  (case h_o_place=>(refine' Fm.own_at (Fm.xtext ?l ?l2 ?hs) ?e;(case l=>k_is);(case l2=>k_is);(case hs=>rfl);(case e=>k_is)))
  (case h_xget=>(refine' ⟨?a,?b,?c,?d,?e⟩;(case a=>k_is);(case b=>k_is);(case c=>k_is);(case d=>k_is);(case e=>k_is)))
  (case h_s11=>k_is)
  (case h_s21=>k_is)
  (case h_s22=>k_is)
  (case h_s31=>k_is)
  (case h_s32=>k_is)
  (case h_s33=>k_is)
  (case h_s41=>k_is)
  (case h_s42=>k_is)
  (case h_s43=>k_is)
  (case h_s44=>k_is)
  (case h_s51=>k_is)
  (case h_s52=>k_is)
  (case h_s53=>k_is)
  (case h_s54=>k_is)
  (case h_s55=>k_is)
  (case h_gPERCENT=>(refine' L2.gi_mk KX G ?e;(case e=>k_is)))
  (case h_gDOLLAR=>(refine' L2.gi_mk KX G ?e;(case e=>k_is)))
  (case h_gSTAR=>(refine' L2.gi_mk KX G ?e;(case e=>k_is)))
  (case h_gPOINT=>(refine' L2.gi_mk KX G ?e;(case e=>k_is)))
  (case h_gMINUS=>(refine' L2.gi_mk KX G ?e;(case e=>k_is)))
  (case h_gPLUS=>(refine' L2.gi_mk KX G ?e;(case e=>k_is)))
  (case h_gBLANK=>(refine' L2.gi_mk KX G ?e;(case e=>k_is)))
  (case h_gZERO=>(refine' L2.gi_mk KX G ?e;(case e=>k_is)))
  (case h_gHASH=>(refine' L2.gi_mk KX G ?e;(case e=>k_is)))
  (case h_gNINE=>(refine' L2.gi_mk KX G ?e;(case e=>k_is)))
  (case h_gLITTLE_A=>(refine' L2.gi_mk KX G ?e;(case e=>k_is)))
  (case h_gBIG_A=>(refine' L2.gi_mk KX G ?e;(case e=>k_is)))
  (case h_gLETTER_O=>(refine' L2.gi_mk KX G ?e;(case e=>k_is)))
  (case h_gLETTER_BIG_X=>(refine' L2.gi_mk KX G ?e;(case e=>k_is)))
  (case h_gLETTER_C=>(refine' L2.gi_mk KX G ?e;(case e=>k_is)))
  (case h_gLETTER_S=>(refine' L2.gi_mk KX G ?e;(case e=>k_is)))
  (case h_gSIGNED_32=>(refine' L2.gi_mk KX G ?e;(case e=>k_is)))
  (case h_gUNSIGNED_32=>(refine' L2.gi_mk KX G ?e;(case e=>k_is)))
  (case h_gSIGNED_64=>(refine' L2.gi_mk KX G ?e;(case e=>k_is)))
  (case h_gUNSIGNED_64=>(refine' L2.gi_mk KX G ?e;(case e=>k_is)))
  (case h_gTEXT=>(refine' L2.gi_mk KX G ?e;(case e=>k_is)))
  (case h_gHIGHEST_ARGUMENT=>(refine' L2.gi_mk KX G ?e;(case e=>k_is)))
  (case h_gHIGHEST_AMOUNT=>(refine' L2.gi_mk KX G ?e;(case e=>k_is)))
  (case h_gEND=>(refine' L2.gi_mk KX G ?e;(case e=>k_is)))
  (case h_gMOST_DIRECTIVES=>(refine' L2.gi_mk KX G ?e;(case e=>k_is)))
  (case h_gMISSING=>(refine' L2.gi_mk KX G ?e;(case e=>k_is)))
  (case h_gOTHER_KIND=>(refine' L2.gi_mk KX G ?e;(case e=>k_is)))
  (case h_gNOT_TAKEN=>(refine' L2.gi_mk KX G ?e;(case e=>k_is)))
  (case h_gFLAGS=>(refine' L2.gt_mk KX G (oc:=.none) ?e ?l ?hz ?hv;(case e=>k_is);(case l=>k_is);(case hz=>decide);(case hv=>repeat (first | exact .nil | refine .cons ⟨_,rfl⟩ ?_))))
  (case h_gSIGNED=>(refine' L2.gt_mk KX G (oc:=.none) ?e ?l ?hz ?hv;(case e=>k_is);(case l=>k_is);(case hz=>decide);(case hv=>repeat (first | exact .nil | refine .cons ⟨_,rfl⟩ ?_))))
  (case h_gUNSIGNED=>(refine' L2.gt_mk KX G (oc:=.none) ?e ?l ?hz ?hv;(case e=>k_is);(case l=>k_is);(case hz=>decide);(case hv=>repeat (first | exact .nil | refine .cons ⟨_,rfl⟩ ?_))))
  (case h_gBASED=>(refine' L2.gt_mk KX G (oc:=.none) ?e ?l ?hz ?hv;(case e=>k_is);(case l=>k_is);(case hz=>decide);(case hv=>repeat (first | exact .nil | refine .cons ⟨_,rfl⟩ ?_))))
  (case h_gNUMERIC=>(refine' L2.gt_mk KX G (oc:=.none) ?e ?l ?hz ?hv;(case e=>k_is);(case l=>k_is);(case hz=>decide);(case hv=>repeat (first | exact .nil | refine .cons ⟨_,rfl⟩ ?_))))
  (case h_gCONVERSIONS=>(refine' L2.gt_mk KX G (oc:=.none) ?e ?l ?hz ?hv;(case e=>k_is);(case l=>k_is);(case hz=>decide);(case hv=>repeat (first | exact .nil | refine .cons ⟨_,rfl⟩ ?_))))
  (case h_gDOUBLED_LENGTHS=>(refine' L2.gt_mk KX G (oc:=.none) ?e ?l ?hz ?hv;(case e=>k_is);(case l=>k_is);(case hz=>decide);(case hv=>repeat (first | exact .nil | refine .cons ⟨_,rfl⟩ ?_))))
  (case h_gLONG_LENGTHS=>(refine' L2.gt_mk KX G (oc:=.none) ?e ?l ?hz ?hv;(case e=>k_is);(case l=>k_is);(case hz=>decide);(case hv=>repeat (first | exact .nil | refine .cons ⟨_,rfl⟩ ?_))))
  (case h_z_len=>(refine' L2.gn_mk KX G ?e;(case e=>k_is)))
  (case h_z_list=>(refine' L2.gn_mk KX G ?e;(case e=>k_is)))
  (case h_z_max=>(refine' L2.gn_mk KX G ?e;(case e=>k_is)))
  (case h_z_min=>(refine' L2.gn_mk KX G ?e;(case e=>k_is)))
  (case h_z_abs=>(refine' L2.gn_mk KX G ?e;(case e=>k_is)))
  (case h_z_range=>(refine' L2.gn_mk KX G ?e;(case e=>k_is)))
  (case h_z_enumerate=>(refine' L2.gn_mk KX G ?e;(case e=>k_is)))
  (case h_z_reversed=>(refine' L2.gn_mk KX G ?e;(case e=>k_is)))
  (case h_z_Exception=>(refine' L2.gn_mk KX G ?e;(case e=>k_is)))
  (case h_gLENGTHS=>(refine' L2.gd_mk KX G (ks:=[(104,.str "h"),(108,.str "l"),(106,.str "j"),(122,.str "z")]) ?e ?l ?ha ?hv ?nd;(case e=>k_is);(case l=>k_is);(case ha=>decide);(case hv=>repeat (first | exact .nil | refine .cons ⟨⟨_,rfl⟩,rfl,⟨_,rfl⟩⟩ ?_));(case nd=>decide)))
  (case h_gBASES=>(refine' L2.gd_mk KX G (ks:=[(111,.int 8),(120,.int 16),(88,.int 16)]) ?e ?l ?ha ?hv ?nd;(case e=>k_is);(case l=>k_is);(case ha=>decide);(case hv=>repeat (first | exact .nil | refine .cons ⟨⟨_,rfl⟩,rfl,⟨_,rfl⟩⟩ ?_));(case nd=>decide)))
  (case h_gSPANS=>(refine' Fm.gds_mk KX G (ks:=[("hh",.int 256),("h",.int 65536),("",.int 4294967296),("l",.int 18446744073709551616),("ll",.int 18446744073709551616),("j",.int 18446744073709551616),("z",.int 18446744073709551616)]) ?e ?l ?ha ?hv ?nd;(case e=>k_is);(case l=>k_is);(case ha=>decide);(case hv=>repeat (first | exact .nil | refine .cons ⟨⟨_,rfl⟩,rfl,⟨_,rfl⟩⟩ ?_));(case nd=>decide +kernel)))
  (case h_gANSWERERS=>(refine' L2.gd_mk KX G (ks:=[(1,.ref _),(2,.ref _),(3,.ref _),(4,.ref _),(5,.ref _),(6,.ref _),(7,.ref _),(8,.ref _),(9,.ref _)]) ?e ?l ?ha ?hv ?nd;(case e=>k_is);(case l=>k_is);(case ha=>decide);(case hv=>repeat (first | exact .nil | refine .cons ⟨⟨_,rfl⟩,rfl,rfl⟩ ?_));(case nd=>decide)))
 case S=>
  intro K H xs a hO hwi hask hx
  cases hx with
  | cons h1 h2=>
   cases h2
   cases h1 with
   | lst hs ha=>
    have e:=L2.ints_dw a.1 _ ha
    subst e
    exact ⟨_,a.1,PyYqfcha.answers a.1,rfl,hs,(Fm.due_start hask).2,fun l H' hl _=>.lst (L2.SqL.of hl) (L2.dw_ints _)⟩
