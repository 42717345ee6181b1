import PyProof.Rows.All
import Wide.All
import OpenK.AllK
import Wide.FinOn
import PyProof.EqAt
import PyProof.EqKinds
import PyProof.TupleCall
import KE.BitLaws
import Open.SpecLaws
import KE.OsHead
import KE.OsGo
import GarLoad
import GarPlug
import WqgarjSpec
import PyProof.Rows.SetFrom
import PyProof.CollectWalk
import PyProof.RangeIter
import PyProof.Rows.SortShell
import PyProof.Rows.SortWalk
import KE.KLam
import PyProof.ListRange
import KE.KSortKeyAny
import KE.KSortTupG
import PyProof.Rows.CallKwBuiltin
import PyProof.Rows.InDataRows
import PySem.Challenge.RW_chargingcars_s01_answers
import KE.KNest
import KE.KEqDeep
import KE.KIntText
import KE.KxField
import PyFlatLaws
set_option Elab.async false
set_option linter.all false
set_option maxRecDepth 100000
abbrev zlm:=@List.length_map
abbrev zla:=@List.length_append
abbrev zgm:=@List.getElem?_map
abbrev zlc:=@List.length_cons
abbrev zge:=@List.getElem?_eq_getElem
abbrev zsi:=@Option.some.inj
abbrev zmc:=@List.mem_cons_of_mem
abbrev zaa:=@List.append_assoc
abbrev zde:=@decide_eq_true_iff
abbrev zbt:=@Bool.and_eq_true
abbrev Fg:=PySem.W.Frag
namespace L2
open PySem PySem.Spec PyProof.Rows
abbrev Key:=Sum Int Str
def z4L:Key→Value→Bool
 | .inl k,v=>Value.isInt k v
 | .inr x,v=>Value.isStrOf x v
def keyH (w:World):Key→Int
 | .inl k=>hashInt k
 | .inr x=>hashStr w x
theorem wX:∀{k:Key}{v:Value},z4L k v=true→(∃i t,k=Sum.inl i∧v=Value.int i t)∨(∃x t,k=Sum.inr x∧v=Value.str x t)
 | .inl i,v,h=>by
  obtain ⟨t,e⟩:=Value.isInt_shape (k:=i) (v:=v) h
  exact .inl ⟨i,t,rfl,e⟩
 | .inr x,v,h=>by
  obtain ⟨t,e⟩:=Value.isStrOf_shape (x:=x) (v:=v) h
  exact .inr ⟨x,t,rfl,e⟩
theorem z4e (a b:Int):decide ((Sum.inl a:Key)=Sum.inl b)=(a == b):=by
 by_cases e:a=b
 ·subst e;simp
 ·have h:¬(Sum.inl a:Key)=Sum.inl b:=fun q=>e (Sum.inl.inj q)
  rw [decide_eq_false h]
  exact (beq_eq_false_iff_ne.mpr e).symm
theorem z4u (a b:Str):decide ((Sum.inr a:Key)=Sum.inr b)=decide (a=b):=by
 by_cases e:a=b
 ·subst e;simp
 ·have h:¬(Sum.inr a:Key)=Sum.inr b:=fun q=>e (Sum.inr.inj q)
  rw [decide_eq_false h,decide_eq_false e]
theorem z39 (a:Int) (b:Str):decide ((Sum.inl a:Key)=Sum.inr b)=false:=decide_eq_false (fun q=>nomatch q)
theorem z4S (a:Str) (b:Int):decide ((Sum.inr a:Key)=Sum.inl b)=false:=decide_eq_false (fun q=>nomatch q)
def z0C (prog:Program) (w:World):PySem.KeyKind prog w Key where
 is:=z4L
 hash:=keyH w
 inj:=fun v a b ha hb=>by
  rcases wX ha with ⟨i,t,rfl,rfl⟩|⟨x,t,rfl,rfl⟩
  ·rcases wX hb with ⟨j,u,rfl,e⟩|⟨y,u,rfl,e⟩
   ·injection e with e1 _;rw [e1]
   ·exact nomatch e
  ·rcases wX hb with ⟨j,u,rfl,e⟩|⟨y,u,rfl,e⟩
   ·exact nomatch e
   ·injection e with e1 _;rw [e1]
 byValue:=fun k v h=>by
  rcases wX h with ⟨i,t,rfl,rfl⟩|⟨x,t,rfl,rfl⟩<;>rfl
 pyHash:=fun hv h=>by
  rcases wX hv with ⟨i,t,rfl,rfl⟩|⟨x,t,rfl,rfl⟩
  ·exact wpAny_pyHash_int h
  ·exact wpAny_pyHash_str h
 eqBool:=fun hu hv h=>by
  rcases wX hu with ⟨i,t,rfl,rfl⟩|⟨x,t,rfl,rfl⟩
  ·rcases wX hv with ⟨j,u,rfl,rfl⟩|⟨y,u,rfl,rfl⟩
   ·rw [z4e] at h;exact wpAny_eqBool_int h
   ·rw [z39] at h;exact SeqAt.EqAt.int_str i t y u _ _ _ _ h
  ·rcases wX hv with ⟨j,u,rfl,rfl⟩|⟨y,u,rfl,rfl⟩
   ·rw [z4S] at h;exact SeqAt.EqAt.str_int x t j u _ _ _ _ h
   ·rw [z4u] at h;exact wpAny_eqBool_str h
 «strs»:=fun k x t v h=>by
  rcases wX h with ⟨i,u,rfl,e⟩|⟨y,u,rfl,e⟩
  ·exact nomatch e
  ·injection e with e1 _
   subst e1
   cases v<;>rfl
open PySem PySem.Spec PyProof.Rows
inductive V where
 | non|bl (b:Bool)|int (i:Int)|str (x:Str)|byt (b:Array UInt8)|flt (b:UInt64)|ref (a:Addr)|ty (n:String)
 deriving DecidableEq
def RelV:V→Value→Prop
 | .non,u=>u=Value.none
 | .bl b,u=>u=Value.bool b
 | .int i,u=>∃t,u=Value.int i t
 | .str x,u=>∃t,u=Value.str x t
 | .byt b,u=>∃t,u=Value.bytes b t
 | .flt b,u=>∃t,u=Value.float b t
 | .ref a,u=>u=Value.ref a
 | .ty n,u=>u=Value.type n
abbrev Vals:List V→List Value→Prop:=Paired RelV
theorem Vals.length {xs:List V}{us:List Value} (r:Vals xs us):xs.length=us.length:=Paired.length r
theorem Vals.get:∀{xs:List V}{us:List Value}{i:Nat}{x:V},Vals xs us→xs[i]?=some x→∃u,us[i]?=some u∧RelV x u
 | _,_,_,_,.nil,e=>by simp at e
 | _,_,0,_,.cons r _,e=>by simp at e;subst e;exact ⟨_,rfl,r⟩
 | _,_,i+1,x,.cons _ t,e=>by
  obtain ⟨u,h1,h2⟩:=Vals.get (i:=i) (x:=x) t (by simpa using e)
  exact ⟨u,by simpa using h1,h2⟩
theorem Vals.set {x:V}{u:Value} (r:RelV x u):∀{xs:List V}{us:List Value} (i:Nat),Vals xs us→Vals (xs.set i x) (us.set i u)
 | _,_,_,.nil=>.nil
 | _,_,0,.cons _ t=>.cons r t
 | _,_,i+1,.cons q t=>.cons q (Vals.set r i t)
theorem Vals.append:∀{xs ys:List V}{us ws:List Value},Vals xs us→Vals ys ws→Vals (xs++ys) (us++ws)
 | _,_,_,_,.nil,s=>s
 | _,_,_,_,.cons r t,s=>.cons r (Vals.append t s)
theorem Vals.take:∀{xs:List V}{us:List Value} (n:Nat),Vals xs us→Vals (xs.take n) (us.take n)
 | _,_,0,_=>.nil
 | _,_,_+1,.nil=>.nil
 | _,_,n+1,.cons r t=>.cons r (Vals.take n t)
theorem Vals.drop:∀{xs:List V}{us:List Value} (n:Nat),Vals xs us→Vals (xs.drop n) (us.drop n)
 | _,_,0,r=>r
 | _,_,_+1,.nil=>.nil
 | _,_,n+1,.cons _ t=>Vals.drop n t
def RelO:Option V→Option Value→Prop
 | some v,some u=>RelV v u
 | none,none=>True
 | _,_=>False
def KV {κ:Type}:List (κ×V)→List (κ×Value)→Prop:=Paired fun (p:κ×V) (q:κ×Value)=>p.1=q.1∧RelV p.2 q.2
def kV:Key→V
 | .inl i=>.int i
 | .inr x=>.str x
inductive HO where
 | lst (xs:List V)
 | tup (xs:List V)
 | dK (kvs:List (Key×V))|dT (kvs:List (List Key×V))
 | set (S:Int→Bool) (n:Nat)
 | ins (C dx:Addr) (fs:List (Str×V))
 | own (x:Addr)
 | xd (fs:List (Str×V))
 | met (f x:Addr)
 | rng (lo hi:Int)
 | frz (o:Obj) (u:HO)
 | tbl (ps:Array Value)
 | ext (φ:Heap→Prop)
abbrev Hp:=Addr→Option HO
def upd (H:Hp) (a:Addr) (o:HO):Hp:=fun b=>if b=a then some o else H b
theorem zX {H:Hp}{a:Addr}{o:HO}:upd H a o a=some o:=by unfold upd;rw [if_pos rfl]
theorem zP {H:Hp}{a b:Addr}{o:HO} (h:b≠a):upd H a o b=H b:=by unfold upd;rw [if_neg h]
theorem uT {H:Hp}{a:Addr}{o u:HO}:upd (upd H a o) a u=upd H a u:=by
 funext b;unfold upd;split<;>rfl
theorem zT {H:Hp}{a b:Addr}{o:HO} (h:H a=some o) (h':H b=none):a≠b:=by
 intro e;subst e;rw [h] at h';cases h'
section
variable (P:Program) (w:World)
def zZr (H:Hp) (h:Heap) (a:Addr):HO→Prop
 | .lst xs=>xs.length≤sizeLine∧∃(its:List Value) (n:Nat),Vals xs its∧h.get? a=some { cls:=.type "list", data:=.seq its.toArray n }
 | .tup xs=>xs.length≤sizeLine∧∃its:List Value,Vals xs its∧IsTup h a its.toArray
 | .dK kvs=>kvs.length≤sizeLine∧(a == sysModules)=false∧∃vs,KV kvs vs∧h.DictOf (z0C P w) a vs
 | .dT kvs=>kvs.length≤sizeLine∧(a == sysModules)=false∧∃xs:List (List Key×Addr×Value),
   Paired (fun (p:List Key×V) (q:List Key×Addr×Value)=>p.1=q.1∧H q.2.1=some (.tup (p.1.map kV))∧RelV p.2 q.2.2) kvs xs∧
   ∃o es ep,h.get? a=some o∧o.ExactDict∧o.data=.dict es ep∧es.toList=xs.map (entryOfKey (tupleKind (z0C P w)))∧(xs.map (·.1)).Nodup
 | .set S n=>h.SetOf (intKind P w) a S n
 | .ins C dx fs=>H dx=some (.own a)∧fs.length≤1000∧dx≠a∧h.get? a=some (PySem.W.instObj C dx)∧
   ∃mA,h.Ns1 dx mA∧(∀f,RelO (fs.lookup f) (mA f))∧PySem.Within mA (fs.map (·.1))
 | .own _=>∃o,h.get? a=some o
 | .xd fs=>∃mA,h.Ns1 a mA∧∀f,RelO (fs.lookup f) (mA f)
 | .rng lo hi=>∃t u v,h.get? a=some { cls:=.type "range", data:=.fields #[.int lo t,.int hi u,.int 1 v] }
 | .frz o u=>h.get? a=some o∧zZr H h a u
 | .tbl ps=>h.get? a=some { cls:=.none,data:=.fields ps }
 | .met f x=>h.get? a=some (PySem.W.methodObj (.ref f) (.ref x))
 | .ext φ=>φ h∧(∃o,h.get? a=some o)∧∀h1 h2:Heap,φ h1→(∀o,h1.get? a=some o→h2.get? a=some o)→φ h2
def HOk (H:Hp) (h:Heap):Prop:=∀a o,H a=some o→zZr P w H h a o
end
section
variable {P:Program}{w:World}{H H':Hp}{h h':Heap}{a:Addr}{o:HO}
theorem zZr.lt (x:zZr P w H h a o):a < h.objs.size:=by
 cases o with
 | lst xs=>obtain ⟨_,_,_,_,e⟩:=x;exact Heap.lt_size e
 | tup xs=>obtain ⟨_,_,_,p⟩:=x;exact p.lt
 | dK kvs=>obtain ⟨_,_,_,_,o,_,_,e,_⟩:=x;exact Heap.lt_size e
 | dT kvs=>obtain ⟨_,_,_,_,o,_,_,e,_⟩:=x;exact Heap.lt_size e
 | set S n=>obtain ⟨o,_,_,_,e,_⟩:=x;exact Heap.lt_size e
 | ins C dx fs=>obtain ⟨_,_,_,e,_⟩:=x;exact Heap.lt_size e
 | own y=>obtain ⟨_,e⟩:=x;exact Heap.lt_size e
 | xd fs=>obtain ⟨_,⟨_,_,_,e,_⟩,_⟩:=x;exact Heap.lt_size e
 | rng lo hi=>obtain ⟨_,_,_,e⟩:=x;exact Heap.lt_size e
 | frz ob u=>obtain ⟨e,_⟩:=x;exact Heap.lt_size e
 | tbl ps=>exact Heap.lt_size (show h.get? a=some _ from x)
 | met f y=>exact Heap.lt_size (show h.get? a=some _ from x)
 | ext φ=>obtain ⟨_,⟨_,e⟩,_⟩:=x;exact Heap.lt_size e
theorem Paired.mapP {α β:Type}{F G:α→β→Prop}:∀{l₁:List α}{l₂:List β},Paired F l₁ l₂→(∀a b,F a b→G a b)→Paired G l₁ l₂
 | _,_,.nil,_=>.nil
 | _,_,.cons r t,f=>.cons (f _ _ r) (Paired.mapP t f)
theorem zZr.stay (x:zZr P w H h a o) (k:∀b u,(b=a∨H b=some (.own a))→h.get? b=some u→h'.get? b=some u)
  (ho:∀b,H b=some (.own a)→H' b=some (.own a)) (ht:∀b xs,H b=some (.tup xs)→H' b=some (.tup xs)):zZr P w H' h' a o:=by
 induction o with
 | lst xs=>obtain ⟨z,its,n,r,e⟩:=x;exact ⟨z,its,n,r,k _ _ (.inl rfl) e⟩
 | tup xs=>obtain ⟨z,its,r,ob,e,c⟩:=x;exact ⟨z,its,r,ob,k _ _ (.inl rfl) e,c⟩
 | dK kvs=>obtain ⟨z,y,vs,r,ob,es,ep,e,c⟩:=x;exact ⟨z,y,vs,r,ob,es,ep,k _ _ (.inl rfl) e,c⟩
 | dT kvs=>
  obtain ⟨z,y,xs,r,ob,es,ep,e,c⟩:=x
  exact ⟨z,y,xs,Paired.mapP r fun p q z=>⟨z.1,ht _ _ z.2.1,z.2.2⟩,ob,es,ep,k _ _ (.inl rfl) e,c⟩
 | set S n=>obtain ⟨ob,es,ep,t,e,c⟩:=x;exact ⟨ob,es,ep,t,k _ _ (.inl rfl) e,c⟩
 | ins C dx fs=>
  obtain ⟨d,z,ne,e,mA,⟨od,es,ep,e2,c⟩,r⟩:=x
  exact ⟨ho _ d,z,ne,k _ _ (.inl rfl) e,mA,⟨od,es,ep,k _ _ (.inr d) e2,c⟩,r⟩
 | own y=>obtain ⟨ob,e⟩:=x;exact ⟨ob,k _ _ (.inl rfl) e⟩
 | xd fs=>obtain ⟨mA,⟨od,es,ep,e,c⟩,r⟩:=x;exact ⟨mA,⟨od,es,ep,k _ _ (.inl rfl) e,c⟩,r⟩
 | rng lo hi=>obtain ⟨t,u,v,e⟩:=x;exact ⟨t,u,v,k _ _ (.inl rfl) e⟩
 | frz ob u ih=>obtain ⟨e,q⟩:=x;exact ⟨k _ _ (.inl rfl) e,ih q⟩
 | tbl ps=>
  have e:h.get? a=some { cls:=.none,data:=.fields ps }:=x
  show h'.get? a=some { cls:=.none,data:=.fields ps }
  exact k a _ (.inl rfl) e
 | met f y=>
  have e:h.get? a=some (PySem.W.methodObj (.ref f) (.ref y)):=x
  show h'.get? a=some (PySem.W.methodObj (.ref f) (.ref y))
  exact k a _ (.inl rfl) e
 | ext φ=>obtain ⟨p,⟨o,e⟩,st⟩:=x;exact ⟨st _ _ p fun o q=>k _ _ (.inl rfl) q,⟨o,k _ _ (.inl rfl) e⟩,st⟩
theorem HOk.lt (x:HOk P w H h) (e:H a=some o):a < h.objs.size:=(x a o e).lt
theorem HOk.fresh (x:HOk P w H h) (e:h.objs.size≤a):H a=none:=by
 cases q:H a with
 | none=>rfl
 | some u=>exact absurd (Nat.lt_of_lt_of_le (x.lt q) e) (Nat.lt_irrefl _)
theorem HOk.kept (x:HOk P w H h) (k:∀b u,h.get? b=some u→h'.get? b=some u):HOk P w H h':=fun a o e=>
 (x a o e).stay (fun b u _ q=>k b u q) (fun _ q=>q) fun _ _ q=>q
theorem HOk.laid (x:HOk P w H h) (k:∀b u,h.get? b=some u→h'.get? b=some u) (hp:h.objs.size≤a) (new:zZr P w (upd H a o) h' a o):HOk P w (upd H a o) h':=fun b u e=>by
 have hn:=x.fresh hp
 by_cases hb:b=a
 ·subst hb;rw [zX] at e;cases e;exact new
 ·rw [zP hb] at e
  exact (x b u e).stay (fun c v _ q=>k c v q) (fun c q=>by rw [zP (zT q hn)];exact q) fun c xs q=>by rw [zP (zT q hn)];exact q
end
def Rd (H:Hp) (a:Addr) (u:HO):Prop:=H a=some u∨∃o,H a=some (.frz o u)
theorem Rd.ok {P:Program}{w:World}{H:Hp}{h:Heap}{a:Addr}{u:HO} (r:Rd H a u) (x:HOk P w H h):zZr P w H h a u:=by
 rcases r with r|⟨o,r⟩
 ·exact x a u r
 ·obtain ⟨_,q⟩:=x a _ r
  exact q
def Mut:Option HO→Prop
 | some (.lst _)=>True
 | some (.dK _)=>True
 | some (.dT _)=>True
 | some (.set _ _)=>True
 | some (.ins _ _ _)=>True
 | some (.ext _)=>True
 | _=>False
section
variable {P:Program}{w:World}{H:Hp}{h h':Heap}{x e:Addr}{o':HO}
theorem HOk.write (ok:HOk P w H h) (mu:Mut (H x)) (he:e=x∨H e=some (.own x)) (k:∀b u,b≠e→h.get? b=some u→h'.get? b=some u) (heo:∃u,h'.get? e=some u)
  (new:zZr P w (upd H x o') h' x o'):HOk P w (upd H x o') h':=fun b u q=>by
 have nown:∀c y,H c=some (.own y)→c≠x:=fun c y r z=>by subst z;rw [r] at mu;exact mu
 have ntup:∀c xs,H c=some (.tup xs)→c≠x:=fun c xs r z=>by subst z;rw [r] at mu;exact mu
 by_cases hb:b=x
 ·subst hb;rw [zX] at q;cases q;exact new
 ·rw [zP hb] at q
  by_cases hbe:b=e
  ·have q':H b=some (.own x):=by
    rcases he with z|z
    ·exact absurd (hbe.trans z) hb
    ·rw [hbe];exact z
   rw [q] at q';cases q'
   obtain ⟨v,hv⟩:=heo
   exact ⟨v,by rw [hbe];exact hv⟩
  ·refine (ok b u q).stay (fun c v hc r=>k c v ?_ r) (fun c r=>by rw [zP (nown c b r)];exact r) fun c xs r=>by rw [zP (ntup c xs r)];exact r
   rcases hc with rfl|hc
   ·exact hbe
   ·rintro rfl
    rcases he with z|z
    ·exact nown c b hc z
    ·rw [hc] at z;cases z;exact hb rfl
end
structure Un (fs ex:List Addr) (H H':Hp) (h h':Heap):Prop where
 keep:∀b o,h.get? b=some o→H b=none→b∉fs→b∉ex→h'.get? b=some o
 slot:∀b o,h.get? b=some o→H b=none→b∈fs→b∉ex→∃sl,h'.get? b=some { o with slots:=sl }
 free:∀b o,h.get? b=some o→H b=none→b∉ex→H' b=none
 there:∀b o,h.get? b=some o→b∉ex→∃o',h'.get? b=some o'
 tups:∀b xs,H b=some (.tup xs)→H' b=some (.tup xs)
 frzs:∀b o u,H b=some (.frz o u)→H' b=some (.frz o u)
 tbls:∀b ps,H b=some (.tbl ps)→∃more,H' b=some (.tbl (ps++more))
section
variable {fs fs' ex ex':List Addr}{H H1 H2:Hp}{h h1 h2 h':Heap}{a x e:Addr}{o:HO}
theorem Un.any (u:Un fs ex H H1 h h1) {b:Addr}{ob:Obj} (q:h.get? b=some ob) (n:H b=none) (hx:b∉ex):∃sl,h1.get? b=some { ob with slots:=sl }:=by
 by_cases hb:b∈fs
 ·exact u.slot b ob q n hb hx
 ·exact ⟨ob.slots,u.keep b ob q n hb hx⟩
theorem Un.kept (k:∀b u,h.get? b=some u→h'.get? b=some u):Un fs ex H H h h':=
 ⟨fun b ob q _ _ _=>k b ob q,fun b ob q _ _ _=>⟨ob.slots,k b ob q⟩,fun _ _ _ n _=>n,fun b ob q _=>⟨ob,k b ob q⟩,fun _ _ q=>q,fun _ _ _ q=>q,fun _ ps q=>⟨#[],by rw [q];simp⟩⟩
theorem Un.refl:Un fs ex H H h h:=Un.kept fun _ _ q=>q
theorem Un.laid (k:∀b u,h.get? b=some u→h'.get? b=some u) (hp:h.objs.size≤a) (hn:H a=none):Un fs ex H (upd H a o) h h' where
 keep:=fun b u q _ _ _=>k b u q
 slot:=fun b u q _ _ _=>⟨u.slots,k b u q⟩
 free:=fun b u q n _=>by rw [zP (Nat.ne_of_lt (Nat.lt_of_lt_of_le (Heap.lt_size q) hp))];exact n
 there:=fun b u q _=>⟨u,k b u q⟩
 tups:=fun b xs q=>by rw [zP (zT q hn)];exact q
 frzs:=fun b u xs q=>by rw [zP (zT q hn)];exact q
 tbls:=fun b ps q=>⟨#[],by rw [zP (zT q hn),q];simp⟩
theorem Un.write (mu:Mut (H x)) (he:e=x∨H e=some (.own x)) (k:∀b u,b≠e→h.get? b=some u→h'.get? b=some u) (heo:∃u,h'.get? e=some u):Un fs ex H (upd H x o) h h':=by
 have hx:∀b,H b=none→b≠x:=fun b n z=>by subst z;rw [n] at mu;exact mu
 have hb:∀b,H b=none→b≠e:=fun b n z=>by
  subst z
  rcases he with r|r
  ·exact hx b n r
  ·rw [n] at r;cases r
 have hm:∀b u,H b=some u→¬Mut (some u)→b≠x:=fun b u q nm z=>by subst z;rw [q] at mu;exact nm mu
 refine ⟨fun b u q n _ _=>k b u (hb b n) q,fun b u q n _ _=>⟨u.slots,k b u (hb b n) q⟩,fun b u q n _=>by rw [zP (hx b n)];exact n,fun b u q _=>?_,
  fun b xs q=>by rw [zP (hm b _ q fun z=>z)];exact q,fun b u xs q=>by rw [zP (hm b _ q fun z=>z)];exact q,fun b ps q=>⟨#[],by rw [zP (hm b _ q fun z=>z),q];simp⟩⟩
 by_cases hbe:b=e
 ·subst hbe;exact heo
 ·exact ⟨u,k b u hbe q⟩
end
def trk (h:Heap) (H:Hp):List Addr:=(List.range h.objs.size).filter fun a=>(H a).isSome
def hidT (h:Heap) (H:Hp):Heap:=PySem.W.hideAll h (trk h H)
theorem z0u (h:Heap) (H:Hp):(hidT h H).objs.size=h.objs.size:=PySem.W.hideAll_size _ _
theorem z2a {h:Heap}{H:Hp}{b:Addr}{o:Obj} (e:h.get? b=some o) (n:H b=none):(hidT h H).get? b=some o:=
 PySem.W.hideAll_get _ e fun hm=>by
  have q:(H b).isSome=true:=(List.mem_filter.mp hm).2
  rw [n] at q;simp at q
theorem z3Q {h:Heap}{H:Hp}{b:Addr}{o:Obj} (e:(hidT h H).get? b=some o):h.get? b=some o∧H b=none:=by
 have e':h.get? b=some o:=PySem.W.of_hideAll (trk h H) e
 refine ⟨e',?_⟩
 cases q:H b with
 | none=>rfl
 | some x=>
  have hm:b∈trk h H:=List.mem_filter.mpr ⟨List.mem_range.mpr (Heap.lt_size e'),by simp [q]⟩
  have z:(hidT h H).get? b=none:=PySem.W.hideAll_none (trk h H) hm
  rw [z] at e;cases e
open PySem PySem.Spec PyProof.Rows
structure Mod (K:Fg) (mg:Str→Option Value) (base:Heap):Prop where
 kin:K.In base
 glob:base.Ns mainGlobals mg
 blt:∃mb,base.Ns builtinsNs mb∧∀x:Str,x≠"__name__" → mb x=bootBuiltins x
 nolimit:base.NoLimit
structure Cx where
 prog:Program
 w:World
 K:Fg
 mg:Str→Option Value
 base:Heap
 A:Around
 N:List Str
 s_0:Shared
 H_0:Hp
 env:Env
 outer:List Env
 stack:List Env
 ex:List Addr
 fn:Str→Bool
 calm:Bool
 pn:List (Addr×Obj)
 xe:Value→Shared→Prop
def frs (l:List Env):List Addr:=l.filterMap (·.frame)
abbrev Cx.fs (X:Cx):List Addr:=frs X.outer
def Vis (sc:Scope) (x:Str):Prop:=sc.names.lookup x=some .local∨sc.names.lookup x=some .cell∨sc.names.lookup x=some .free
def Loc (sc:Scope) (x:Str):Prop:=sc.names.lookup x=some .local∨sc.names.lookup x=some .cell
def Look (env:Env) (h:Heap) (m:Str→Option Value) (x:Str) (u:Value):Prop:=
 (env.kindOf x=some .local∧m x=some u)∨((env.kindOf x=some .cell∨env.kindOf x=some .free)∧∃c,env.cells.lookup x=some c∧h.IsCell c (some u))
structure Cx.Ok (X:Cx):Prop where
 mod:Mod X.K X.mg X.base
 kind:X.env.scope.kind=.function
 glob:X.env.globals=mainGlobals
 blt:X.env.builtins=builtinsNs
 above:X.s_0.heap.objs.size≤X.env.locals
 inj:∀x y c,X.env.cells.lookup x=some c→X.env.cells.lookup y=some c→x=y
 has:∀x,(X.env.kindOf x=some .cell∨X.env.kindOf x=some .free)→∃c,X.env.cells.lookup x=some c
 cab:∀x c,X.fn x=true→X.env.cells.lookup x=some c→X.s_0.heap.objs.size≤c
 hd:X.calm=true→X.A.handled=none
 frames:X.A.frames=some X.stack
 stk:X.stack=X.outer∨(X.stack=X.env::X.outer∧X.env.frame=some X.env.locals)
 exf:∀b∈X.ex,b≠X.env.locals∧∀x c,X.env.cells.lookup x=some c→c≠b
 bs:∀b o,X.base.get? b=some o→X.s_0.heap.get? b=some o∧X.H_0 b=none
 bsz:X.base.objs.size≤X.s_0.heap.objs.size
 noex:∀b o,X.base.get? b=some o→b∉X.ex
 exfs:∀b∈X.ex,b∉X.fs
 funs:X.s_0.heap.FunFrames X.base X.outer
 frf:∀b∈X.fs,X.H_0 b=none
structure Inv (X:Cx) (pins:List (Addr×Obj)) (σ:List (Option V)) (H:Hp) (s:Shared):Prop where
 ok:X.Ok
 os:s.os=X.s_0.os
 bare:AllBare s.gens
 base:Un X.fs X.ex X.H_0 H X.s_0.heap s.heap
 loc:∃m,s.heap.Ns X.env.locals m∧∀(i:Nat) (x:Str) (v:V),X.N[i]?=some x→σ[i]?=some (some v)→Vis X.env.scope x→∃u,RelV v u∧Look X.env s.heap m x u
 cell:∀x c,X.env.cells.lookup x=some c→∃v,s.heap.IsCell c v
 free:H X.env.locals=none
 freeC:∀x c,X.env.cells.lookup x=some c→H c=none
 pin:∀p∈X.pn++pins,s.heap.get? p.1=some p.2∧H p.1=none∧p.1≠X.env.locals∧p.1∉X.fs∧∀v,p.2.data≠.cell v
 hok:HOk X.prog X.w H s.heap
 len:σ.length=X.N.length
section
variable {X:Cx}{pins:List (Addr×Obj)}{σ:List (Option V)}{H H':Hp}{s:Shared}{h':Heap}
theorem Cx.Ok.nofr (ok:X.Ok) {b:Addr}{o:Obj} (e:X.base.get? b=some o):b∉X.fs:=fun hb=>by
 have:=(ok.funs.mem hb).1
 rw [e] at this;cases this
theorem Inv.bs (I:Inv X pins σ H s):∀b o,X.base.get? b=some o→s.heap.get? b=some o∧H b=none:=fun b o e=>
 ⟨I.base.keep b o (I.ok.bs b o e).1 (I.ok.bs b o e).2 (I.ok.nofr e) (I.ok.noex b o e),I.base.free b o (I.ok.bs b o e).1 (I.ok.bs b o e).2 (I.ok.noex b o e)⟩
theorem Inv.bk (I:Inv X pins σ H s):∀b o,X.base.get? b=some o→s.heap.get? b=some o:=fun b o e=>(I.bs b o e).1
theorem Inv.mod (I:Inv X pins σ H s):Mod X.K X.mg X.base:=I.ok.mod
theorem Inv.kIn (I:Inv X pins σ H s):X.K.In s.heap:=I.ok.mod.kin.keeps I.bk
theorem Inv.lt (I:Inv X pins σ H s):X.env.locals < s.heap.objs.size:=let ⟨_,hn,_⟩:=I.loc;hn.lt
theorem Inv.sz (I:Inv X pins σ H s):X.s_0.heap.objs.size≤s.heap.objs.size:=Nat.le_trans I.ok.above (Nat.le_of_lt I.lt)
theorem Inv.nofs (I:Inv X pins σ H s) {a:Addr} (h:s.heap.objs.size≤a):a∉X.fs:=fun hb=>by
 obtain ⟨_,o,ho,_⟩:=I.ok.funs.mem hb
 exact absurd (Nat.lt_of_lt_of_le (Heap.lt_size ho) (Nat.le_trans I.sz h)) (Nat.lt_irrefl _)
theorem Inv.cne (I:Inv X pins σ H s):∀x c,X.env.cells.lookup x=some c→c≠X.env.locals:=fun x c e z=>by
 obtain ⟨v,o,ho,hd⟩:=I.cell x c e
 obtain ⟨m,⟨o',es,ep,ho',hd',_⟩,_⟩:=I.loc
 rw [z,ho'] at ho;cases ho;rw [hd'] at hd;cases hd
theorem Inv.funs (I:Inv X pins σ H s):s.heap.FunFrames X.base X.outer:=by
 have all:∀(l:List Env),(∀b∈frs l,b∈X.fs)→X.s_0.heap.FunFrames X.base l→s.heap.FunFrames X.base l:=by
  intro l
  induction l with
  | nil=>intro _ _;trivial
  | cons env r ih=>
   intro hs hl
   obtain ⟨hk,⟨L,o,hf,hn,ho,hd⟩,hr⟩:=hl
   have hL:L∈X.fs:=hs L (by unfold frs;rw [List.filterMap_cons,hf];exact List.mem_cons_self)
   obtain ⟨sl,e⟩:=I.base.slot L o ho (I.ok.frf L hL) hL fun z=>I.ok.exfs L z hL
   exact ⟨hk,⟨L,_,hf,hn,e,hd⟩,ih (fun b hb=>hs b (by unfold frs;rw [List.filterMap_cons,hf];exact zmc _ hb)) hr⟩
 exact all X.outer (fun _ hb=>hb) I.ok.funs
theorem Inv.stack (I:Inv X pins σ H s):s.heap.FunFrames X.base X.stack:=by
 rcases I.ok.stk with e|⟨e,hf⟩
 ·rw [e];exact I.funs
 ·rw [e]
  obtain ⟨m,hn,_⟩:=I.loc
  refine .cons (by rw [I.ok.kind];decide) hf hn ?_ I.funs
  exact Heap.get?_none_of_le (Nat.le_trans I.ok.bsz I.ok.above)
theorem Inv.stkSub (I:Inv X pins σ H s):∀b∈frs X.stack,b∈X.env.locals::X.fs:=fun b hb=>by
 rcases I.ok.stk with e|⟨e,hf⟩
 ·rw [e] at hb;exact zmc _ hb
 ·rw [e] at hb
  unfold frs at hb
  rw [List.filterMap_cons,hf] at hb
  exact hb
theorem Inv.stkFree (I:Inv X pins σ H s):∀b∈frs X.stack,H b=none:=fun b hb=>by
 rcases List.mem_cons.mp (I.stkSub b hb) with e|hb
 ·rw [e];exact I.free
 ·obtain ⟨_,o,ho,_⟩:=I.ok.funs.mem hb
  exact I.base.free b o ho (I.ok.frf b hb) fun z=>I.ok.exfs b z hb
theorem Inv.step {g':Array GenState}{t':Nat}{d':Drawn}{ch:List Addr} (I:Inv X pins σ H s)
  (hch:∀b∈ch,(b∈X.ex∨X.s_0.heap.objs.size≤b)∧b≠X.env.locals∧(∀x c,X.env.cells.lookup x=some c→c≠b)∧∀p∈X.pn++pins,p.1≠b)
  (keep:∀b o,b≠X.env.locals→b∉X.fs→b∉ch→s.heap.get? b=some o→H b=none→h'.get? b=some o)
  (slot:∀b o,b≠X.env.locals→b∈X.fs→b∉ch→s.heap.get? b=some o→H b=none→∃sl,h'.get? b=some { o with slots:=sl }) (free:∀b o,b∉ch→s.heap.get? b=some o→H b=none→H' b=none)
  (there:∀b o,b∉ch→s.heap.get? b=some o→∃o',h'.get? b=some o')
  (tups:∀b xs,H b=some (.tup xs)→H' b=some (.tup xs)) (frzs:∀b o u,H b=some (.frz o u)→H' b=some (.frz o u)) (tbls:∀b ps,H b=some (.tbl ps)→∃more,H' b=some (.tbl (ps++more)))
  (ns:∀m,s.heap.Ns X.env.locals m→h'.Ns X.env.locals m) (hok:HOk X.prog X.w H' h') (hg:AllBare g'):
  Inv X pins σ H' { s with heap:=h',gens:=g',drawn:=d',toks:=t' }:=by
 have neL:∀b o,X.s_0.heap.get? b=some o→b≠X.env.locals:=fun b o e=>Nat.ne_of_lt (Nat.lt_of_lt_of_le (Heap.lt_size e) I.ok.above)
 have neC:∀b o,X.s_0.heap.get? b=some o→b∉X.ex→b∉ch:=fun b o e hx hb=>by
  rcases (hch b hb).1 with z|z
  ·exact hx z
  ·exact absurd (Nat.lt_of_lt_of_le (Heap.lt_size e) z) (Nat.lt_irrefl _)
 have cellK:∀x c,X.env.cells.lookup x=some c→∀v,s.heap.IsCell c v→h'.IsCell c v:=fun x c e v ⟨o,ho,hd⟩=>by
  have nch:c∉ch:=fun z=>(hch c z).2.2.1 x c e rfl
  by_cases hc:c∈X.fs
  ·obtain ⟨sl,q⟩:=slot c o (I.cne x c e) hc nch ho (I.freeC x c e)
   exact ⟨_,q,hd⟩
  ·exact ⟨o,keep c o (I.cne x c e) hc nch ho (I.freeC x c e),hd⟩
 refine ⟨I.ok,I.os,hg,⟨fun b o e n hb hx=>?_,fun b o e n hb hx=>?_,fun b o e n hx=>?_,fun b o e hx=>?_,fun b xs e=>tups b xs (I.base.tups b xs e),fun b o xs e=>frzs b o xs (I.base.frzs b o xs e),fun b ps e=>?_⟩,?_,fun x c e=>?_,?_,fun x c e=>?_,fun p hp=>?_,hok,I.len⟩
 ·exact keep b o (neL b o e) hb (neC b o e hx) (I.base.keep b o e n hb hx) (I.base.free b o e n hx)
 ·obtain ⟨sl,e1⟩:=I.base.slot b o e n hb hx
  obtain ⟨sl',e2⟩:=slot b _ (neL b o e) hb (neC b o e hx) e1 (I.base.free b o e n hx)
  exact ⟨sl',e2⟩
 ·obtain ⟨o',e1⟩:=I.base.there b o e hx
  exact free b o' (neC b o e hx) e1 (I.base.free b o e n hx)
 ·obtain ⟨o',e1⟩:=I.base.there b o e hx
  exact there b o' (neC b o e hx) e1
 ·obtain ⟨m1,e1⟩:=I.base.tbls b ps e
  obtain ⟨m2,e2⟩:=tbls b _ e1
  exact ⟨m1++m2,by rw [e2,Array.append_assoc]⟩
 ·obtain ⟨m,hn,hl⟩:=I.loc
  refine ⟨m,ns m hn,fun i x v e1 e2 e3=>?_⟩
  obtain ⟨u,r,l⟩:=hl i x v e1 e2 e3
  refine ⟨u,r,?_⟩
  rcases l with l|⟨k,c,e,z⟩
  ·exact .inl l
  ·exact .inr ⟨k,c,e,cellK x c e _ z⟩
 ·obtain ⟨v,z⟩:=I.cell x c e
  exact ⟨v,cellK x c e v z⟩
 ·obtain ⟨m,⟨o,_,_,ho,_⟩,_⟩:=I.loc
  exact free _ o (fun z=>(hch _ z).2.1 rfl) ho I.free
 ·obtain ⟨v,o,ho,hd⟩:=I.cell x c e
  exact free c o (fun z=>(hch c z).2.2.1 x c e rfl) ho (I.freeC x c e)
 ·obtain ⟨e,n,ne,nf,d⟩:=I.pin p hp
  have nch:p.1∉ch:=fun z=>(hch p.1 z).2.2.2 p hp rfl
  exact ⟨keep p.1 p.2 ne nf nch e n,free p.1 p.2 nch e n,ne,nf,d⟩
theorem Inv.un {t':Nat} (I:Inv X pins σ H s) (u:Un X.fs [] H H' s.heap h') (hok:HOk X.prog X.w H' h'):Inv X pins σ H' { s with heap:=h',toks:=t' }:=by
 obtain ⟨m,⟨o,es,ep,ho,r⟩,_⟩:=id I.loc
 obtain ⟨sl,hL⟩:=u.any ho I.free (by simp)
 exact I.step (g':=s.gens) (d':=s.drawn) (ch:=[]) (fun _ z=>nomatch z) (fun b o _ hb _ e n=>u.keep b o e n hb (by simp)) (fun b o _ hb _ e n=>u.slot b o e n hb (by simp)) (fun b o _ e n=>u.free b o e n (by simp)) (fun b o _ e=>u.there b o e (by simp)) u.tups u.frzs u.tbls (fun m' hm=>by
  obtain ⟨o',es',ep',ho',r'⟩:=hm
  rw [ho] at ho';cases ho'
  exact ⟨_,es',ep',hL,r'⟩) hok I.bare
theorem Inv.call {g':Array GenState}{t':Nat}{d':Drawn}{ch:List Addr} (I:Inv X pins σ H s) (u:Un (frs X.stack) ch H H' s.heap h') (hok:HOk X.prog X.w H' h') (hg:AllBare g')
  (hch:∀b∈ch,(b∈X.ex∨X.s_0.heap.objs.size≤b)∧b≠X.env.locals∧(∀x c,X.env.cells.lookup x=some c→c≠b)∧∀p∈X.pn++pins,p.1≠b):
  Inv X pins σ H' { s with heap:=h',gens:=g',drawn:=d',toks:=t' }:=by
 obtain ⟨m,⟨o,es,ep,ho,r⟩,_⟩:=id I.loc
 obtain ⟨sl,hL⟩:=u.any ho I.free fun z=>(hch _ z).2.1 rfl
 exact I.step (ch:=ch) hch (fun b o hL hb hc e n=>u.keep b o e n (fun z=>(List.mem_cons.mp (I.stkSub b z)).elim hL hb) hc) (fun b o _ _ hc e n=>u.any e n hc) (fun b o hc e n=>u.free b o e n hc) (fun b o hc e=>u.there b o e hc) u.tups u.frzs u.tbls (fun m' hm=>by
  obtain ⟨o',es',ep',ho',r'⟩:=hm
  rw [ho] at ho';cases ho'
  exact ⟨_,es',ep',hL,r'⟩) hok hg
theorem Inv.turned {t':Nat}{it:Addr} (I:Inv X pins σ H s) (k:∀b o,b≠it→s.heap.get? b=some o→h'.get? b=some o) (hn:H it=none) (hL:it≠X.env.locals)
  (h1:it∈X.ex∨X.s_0.heap.objs.size≤it) (h2:∀x c,X.env.cells.lookup x=some c→c≠it) (h3:∀p∈X.pn++pins,p.1≠it):Inv X pins σ H { s with heap:=h',toks:=t' }:=by
 have nit:∀b u,H b=some u→b≠it:=fun b u e z=>by rw [z,hn] at e;cases e
 refine I.step (g':=s.gens) (d':=s.drawn) (ch:=[it]) (fun b hb=>?_) (fun b o _ _ hc e _=>k b o (fun z=>hc (by simp [z])) e) (fun b o _ _ hc e _=>⟨o.slots,k b o (fun z=>hc (by simp [z])) e⟩) (fun _ _ _ _ n=>n)
  (fun b o hc e=>⟨o,k b o (fun z=>hc (by simp [z])) e⟩) (fun _ _ e=>e) (fun _ _ _ e=>e) (fun b ps e=>⟨#[],by rw [e];simp⟩) (fun m hm=>?_) (fun b u e=>?_) I.bare
 ·have e:b=it:=by simpa using hb
  subst e
  exact ⟨h1,hL,h2,h3⟩
 ·obtain ⟨o,es,ep,ho,r⟩:=hm
  exact ⟨o,es,ep,k _ o (Ne.symm hL) ho,r⟩
 ·refine (I.hok b u e).stay (fun c v hc q=>k c v ?_ q) (fun _ q=>q) fun _ _ q=>q
  rcases hc with z|z
  ·rw [z];exact nit b u e
  ·exact nit c _ z
theorem Inv.tok (I:Inv X pins σ H s) (t:Nat):Inv X pins σ H { s with toks:=t }:=I.un (h':=s.heap) (t':=t) Un.refl I.hok
theorem Inv.kept {t':Nat} (I:Inv X pins σ H s) (k:∀b u,s.heap.get? b=some u→h'.get? b=some u):Inv X pins σ H { s with heap:=h',toks:=t' }:=I.un (Un.kept k) (I.hok.kept k)
theorem Inv.laid {a:Addr}{o:HO}{t':Nat} (I:Inv X pins σ H s) (k:∀b u,s.heap.get? b=some u→h'.get? b=some u) (hp:s.heap.objs.size≤a) (new:zZr X.prog X.w (upd H a o) h' a o):
  Inv X pins σ (upd H a o) { s with heap:=h',toks:=t' }:=I.un (Un.laid k hp (I.hok.fresh hp)) (I.hok.laid k hp new)
theorem Inv.write {x e:Addr}{o:HO}{t':Nat} (I:Inv X pins σ H s) (mu:Mut (H x)) (he:e=x∨H e=some (.own x)) (k:∀b u,b≠e→s.heap.get? b=some u→h'.get? b=some u) (heo:∃u,h'.get? e=some u)
  (new:zZr X.prog X.w (upd H x o) h' x o):Inv X pins σ (upd H x o) { s with heap:=h',toks:=t' }:=I.un (Un.write mu he k heo) (I.hok.write mu he k heo new)
theorem Inv.weak {σ':List (Option V)} (I:Inv X pins σ H s) (hl:σ'.length=σ.length) (w:∀(i:Nat) v,σ'[i]?=some (some v)→σ[i]?=some (some v)):Inv X pins σ' H s:=
 ⟨I.ok,I.os,I.bare,I.base,let ⟨m,hn,hl'⟩:=I.loc;⟨m,hn,fun i x v e1 e2 e3=>hl' i x v e1 (w i v e2) e3⟩,I.cell,I.free,I.freeC,I.pin,I.hok,hl.trans I.len⟩
theorem Inv.pins_of {pins':List (Addr×Obj)} (I:Inv X pins σ H s) (h:∀p∈pins',s.heap.get? p.1=some p.2∧H p.1=none∧p.1≠X.env.locals∧p.1∉X.fs∧∀v,p.2.data≠.cell v):Inv X pins' σ H s:=
 ⟨I.ok,I.os,I.bare,I.base,I.loc,I.cell,I.free,I.freeC,fun p hp=>(List.mem_append.mp hp).elim (fun z=>I.pin p (List.mem_append_left _ z)) (h p),I.hok,I.len⟩
theorem zT3 {N:List Str} (hN:N.Nodup) {i j:Nat}{x:Str} (a:N[i]?=some x) (b:N[j]?=some x):i=j:=by
 obtain ⟨h1,e1⟩:=List.getElem?_eq_some_iff.mp a
 obtain ⟨h2,e2⟩:=List.getElem?_eq_some_iff.mp b
 exact (List.getElem_inj hN).mp (e1.trans e2.symm)
theorem zSm {M:Model}{A:Around}{E:Value→Shared→Prop}{i:Nat}{x:Str}{v:V}{u:Value}{Q:Unit→Shared→Prop} (I:Inv X pins σ H s) (hN:X.N.Nodup) (hi:X.N[i]?=some x) (hx:Loc X.env.scope x) (r:RelV v u)
  (h:∀s',Inv X pins (σ.set i (some v)) H s'→(∃a,Heap.SameBut a s.heap s'.heap∧(a=X.env.locals∨X.env.cells.lookup x=some a))→Q () s') (hf:X.fn x=true∨X.env.scope.names.lookup x=some .local:=by first|exact .inl rfl|exact .inr rfl|assumption):wpAny M A (storeName X.env x u) Q E s:=by
 obtain ⟨m,hn,hl⟩:=id I.loc
 have hcls:(X.env.scope.kind == .class || (X.env.scope.kind == .module && X.env.locals != X.env.globals))=false:=by rw [I.ok.kind];rfl
 have hiσ:i < σ.length:=by rw [I.len];exact (List.getElem?_eq_some_iff.mp hi).1
 have cne:=I.cne
 have tracked:∀{a:Addr}{h':Heap},(∃o,s.heap.get? a=some o∧H a=none)→Heap.SameBut a s.heap h'→HOk X.prog X.w H h':=fun {a h'} ha hs b ob e=>by
  obtain ⟨_,_,hfree⟩:=ha
  refine (I.hok b ob e).stay (fun c w' hc q=>(hs.2 c ?_).trans q) (fun _ q=>q) fun _ _ q=>q
  rintro rfl
  rcases hc with rfl|hc
  ·rw [hfree] at e;cases e
  ·rw [hfree] at hc;cases hc
 rcases hx with hk|hk
 ·refine wpAny_storeName_local hk hn (fun h' hn' hs=>?_) hcls
  obtain ⟨oL,_,_,hoL,_⟩:=id hn
  refine h _ ⟨I.ok,I.os,I.bare,⟨fun b o e n hb hx=>?_,fun b o e n hb hx=>?_,I.base.free,fun b o e hx=>?_,I.base.tups,I.base.frzs,I.base.tbls⟩,⟨_,hn',fun j y v' e1 e2 e3=>?_⟩,fun y c e=>?_,I.free,I.freeC,fun p hp=>?_,tracked ⟨oL,hoL,I.free⟩ hs,by simpa using I.len⟩ ⟨_,hs,.inl rfl⟩
  ·exact (hs.2 b (Nat.ne_of_lt (Nat.lt_of_lt_of_le (Heap.lt_size e) I.ok.above))).trans (I.base.keep b o e n hb hx)
  ·obtain ⟨sl,e1⟩:=I.base.slot b o e n hb hx
   exact ⟨sl,(hs.2 b (Nat.ne_of_lt (Nat.lt_of_lt_of_le (Heap.lt_size e) I.ok.above))).trans e1⟩
  ·obtain ⟨o',e1⟩:=I.base.there b o e hx
   exact ⟨o',(hs.2 b (Nat.ne_of_lt (Nat.lt_of_lt_of_le (Heap.lt_size e) I.ok.above))).trans e1⟩
  ·by_cases hj:j=i
   ·subst hj
    rw [hi] at e1;cases e1
    rw [List.getElem?_set_self hiσ] at e2
    cases e2
    exact ⟨u,r,.inl ⟨hk,by simp⟩⟩
   ·rw [List.getElem?_set_ne (Ne.symm hj)] at e2
    obtain ⟨u',r',q⟩:=hl j y v' e1 e2 e3
    refine ⟨u',r',?_⟩
    rcases q with ⟨k,e⟩|⟨k,c,e,z⟩
    ·refine .inl ⟨k,?_⟩
     have:y≠x:=fun e=>hj (zT3 hN e1 (e ▸ hi))
     simp [this,e]
    ·exact .inr ⟨k,c,e,z.sameBut hs (cne y c e)⟩
  ·obtain ⟨w',z⟩:=I.cell y c e
   exact ⟨w',z.sameBut hs (cne y c e)⟩
  ·obtain ⟨e,n,ne,nf,d⟩:=I.pin p hp
   exact ⟨(hs.2 p.1 ne).trans e,n,ne,nf,d⟩
 ·have hfn:X.fn x=true:=by
   rcases hf with z|z
   ·exact z
   ·rw [z] at hk;cases hk
  obtain ⟨c,hc⟩:=I.ok.has x (.inl hk)
  obtain ⟨w',z⟩:=I.cell x c hc
  refine wpAny_storeName_cell I.ok.kind hk hc z (fun h' hc' hs=>?_)
  obtain ⟨oc,hoc,hocd⟩:=id z
  refine h { s with heap:=h' } ⟨I.ok,I.os,I.bare,⟨fun b o e n hb hx=>?_,fun b o e n hb hx=>?_,I.base.free,fun b o e hx=>?_,I.base.tups,I.base.frzs,I.base.tbls⟩,⟨m,hn.sameBut hs (Ne.symm (cne x c hc)),fun j y v' e1 e2 e3=>?_⟩,fun y c' e=>?_,I.free,I.freeC,fun p hp=>?_,tracked ⟨oc,hoc,I.freeC x c hc⟩ hs,by simpa using I.len⟩ ⟨c,hs,.inr hc⟩
  ·exact (hs.2 b (Nat.ne_of_lt (Nat.lt_of_lt_of_le (Heap.lt_size e) (I.ok.cab x c hfn hc)))).trans (I.base.keep b o e n hb hx)
  ·obtain ⟨sl,e1⟩:=I.base.slot b o e n hb hx
   exact ⟨sl,(hs.2 b (Nat.ne_of_lt (Nat.lt_of_lt_of_le (Heap.lt_size e) (I.ok.cab x c hfn hc)))).trans e1⟩
  ·obtain ⟨o',e1⟩:=I.base.there b o e hx
   exact ⟨o',(hs.2 b (Nat.ne_of_lt (Nat.lt_of_lt_of_le (Heap.lt_size e) (I.ok.cab x c hfn hc)))).trans e1⟩
  ·by_cases hj:j=i
   ·subst hj
    rw [hi] at e1;cases e1
    rw [List.getElem?_set_self hiσ] at e2
    cases e2
    exact ⟨u,r,.inr ⟨.inl hk,c,hc,hc'⟩⟩
   ·rw [List.getElem?_set_ne (Ne.symm hj)] at e2
    obtain ⟨u',r',q⟩:=hl j y v' e1 e2 e3
    refine ⟨u',r',?_⟩
    rcases q with q|⟨k,c',e,z'⟩
    ·exact .inl q
    ·refine .inr ⟨k,c',e,z'.sameBut hs ?_⟩
     rintro rfl
     exact hj (zT3 hN e1 (I.ok.inj _ _ _ e hc ▸ hi))
  ·by_cases hcc:c'=c
   ·subst hcc;exact ⟨_,hc'⟩
   ·obtain ⟨w2,z2⟩:=I.cell y c' e
    exact ⟨w2,z2.sameBut hs hcc⟩
  ·obtain ⟨e,n,ne,nf,d⟩:=I.pin p hp
   refine ⟨(hs.2 p.1 ?_).trans e,n,ne,nf,d⟩
   intro q
   rw [q,hoc] at e
   have q':oc=p.2:=zsi e
   exact d w' (by rw [←q'];exact hocd)
theorem zR6 {M:Model}{A:Around}{E:Value→Shared→Prop}{i:Nat}{x:Str}{v:V}{u:Value}{Q:Unit→Shared→Prop} (I:Inv X pins σ H s) (hN:X.N.Nodup) (hi:X.N[i]?=some x) (hx:Loc X.env.scope x) (r:RelV v u)
  (h:∀s',Inv X pins (σ.set i (some v)) H s'→Q () s') (hf:X.fn x=true∨X.env.scope.names.lookup x=some .local:=by first|exact .inl rfl|exact .inr rfl|assumption):wpAny M A (storeName X.env x u) Q E s:=
 zSm I hN hi hx r (fun s' I' _=>h s' I') hf
theorem Inv.call' {s':Shared}{ch:List Addr} (I:Inv X pins σ H s) (ho:s'.os=s.os) (u:Un (frs X.stack) ch H H' s.heap s'.heap) (hok:HOk X.prog X.w H' s'.heap) (hg:AllBare s'.gens)
  (hch:∀b∈ch,(b∈X.ex∨X.s_0.heap.objs.size≤b)∧b≠X.env.locals∧(∀x c,X.env.cells.lookup x=some c→c≠b)∧∀p∈X.pn++pins,p.1≠b):Inv X pins σ H' s':=by
 obtain ⟨h',g',d',t',o'⟩:=s'
 have e:o'=s.os:=ho
 subst e
 exact I.call (g':=g') (t':=t') (d':=d') u hok hg hch
end
abbrev XK:=Value→Option Addr→Hp→Prop
abbrev St:=List (Option V)
abbrev VK:=V→Hp→Prop
abbrev TE:=St→Hp→VK→Prop
abbrev TT:=St→Hp→(Bool→Hp→Prop)→Prop
abbrev TA:=St→Hp→(List V→Hp→Prop)→Prop
structure Ends where
 nx:St→Hp→Prop
 rt:VK
 bk:St→Hp→Prop:=fun _ _=>False
 ct:St→Hp→Prop:=fun _ _=>False
abbrev TS:=Ends→St→Hp→Prop
def EP (X:Cx) (pins:List (Addr×Obj)) (σ:St) (Q:VK) (u:Value) (s':Shared):Prop:=∃v H',Inv X pins σ H' s'∧RelV v u∧Q v H'
def TP (X:Cx) (pins:List (Addr×Obj)) (σ:St) (Q:Bool→Hp→Prop) (b:Bool) (s':Shared):Prop:=∃H',Inv X pins σ H' s'∧Q b H'
def AP (X:Cx) (pins:List (Addr×Obj)) (σ:St) (Q:List V→Hp→Prop) (us:List Value) (s':Shared):Prop:=∃vs H',Inv X pins σ H' s'∧Vals vs us∧Q vs H'
def SP (X:Cx) (pins:List (Addr×Obj)) (D:Ends) (f:Flow) (s':Shared):Prop:=
 match f with
 | .next=>∃σ' H',Inv X pins σ' H' s'∧D.nx σ' H'
 | .brk=>∃σ' H',Inv X pins σ' H' s'∧D.bk σ' H'
 | .cont=>∃σ' H',Inv X pins σ' H' s'∧D.ct σ' H'
 | .ret u=>∃v σ' H',Inv X pins σ' H' s'∧RelV v u∧D.rt v H'
def PE (X:Cx) (e:Expr) (t:TE):Prop:=
 ∀(pins:List (Addr×Obj)) (s:Shared) (σ:St) (H:Hp) (Q:VK),Inv X pins σ H s→t σ H Q→wpAny (model X.prog X.w) X.A (eval e X.env) (EP X pins σ Q) X.xe s
def PT (X:Cx) (e:Expr) (t:TT):Prop:=
 ∀(pins:List (Addr×Obj)) (s:Shared) (σ:St) (H:Hp) (Q:Bool→Hp→Prop),Inv X pins σ H s→t σ H Q→wpAny (model X.prog X.w) X.A (isTrue e X.env (eval e X.env)) (TP X pins σ Q) X.xe s
def PW (X:Cx) (e:Expr) (t:TT):Prop:=
 ∀(whole:Sem Value) (pins:List (Addr×Obj)) (s:Shared) (σ:St) (H:Hp) (Q:Bool→Hp→Prop),Inv X pins σ H s→t σ H Q→wpAny (model X.prog X.w) X.A (isTrue e X.env whole) (TP X pins σ Q) X.xe s
theorem PW.pt {X:Cx}{e:Expr}{t:TT} (h:PW X e t):PT X e t:=h _
def PA (X:Cx) (es:List Expr) (t:TA):Prop:=
 ∀(pos:Pos) (pins:List (Addr×Obj)) (s:Shared) (σ:St) (H:Hp) (Q:List V→Hp→Prop),Inv X pins σ H s→t σ H Q→wpAny (model X.prog X.w) X.A (spliced (backTo pos (starEach es X.env))) (AP X pins σ Q) X.xe s
def PS (X:Cx) (st:Stmt) (t:TS):Prop:=
 ∀(pins:List (Addr×Obj)) (s:Shared) (σ:St) (H:Hp) (D:Ends),Inv X pins σ H s→t D σ H→wpAny (model X.prog X.w) X.A (exec st X.env) (SP X pins D) X.xe s
def PSs (X:Cx) (st:List Stmt) (t:TS):Prop:=
 ∀(pins:List (Addr×Obj)) (s:Shared) (σ:St) (H:Hp) (D:Ends),Inv X pins σ H s→t D σ H→wpAny (model X.prog X.w) X.A (execs st X.env) (SP X pins D) X.xe s
theorem thn {α:Type}{t:Sem α}{Q Q':α→Shared→Prop}{M:Model}{A:Around}{E:Value→Shared→Prop}{s:Shared} (h:wpAny M A t Q E s) (hQ:∀a s,Q a s→Q' a s):wpAny M A t Q' E s:=wpAny_mono h hQ fun _ _ x=>x
open PySem PySem.Spec PyProof.Rows
section
variable {X:Cx}
inductive tVar (i:Nat) (σ:St) (H:Hp) (Q:VK):Prop
 | mk (v:_) (_:σ[i]?=some (some v)) (_:Q v H):tVar i σ H Q
def tC (v:V):TE:=fun _ H Q=>Q v H
theorem z4f {i:Nat}{x:Str}{pos:Pos} (hN:X.N[i]?=some x) (hv:Vis X.env.scope x) (hd:(x == ("__debug__" : Str))=false:=by decide) (hcd:(x == ("__classdict__" : Str))=false:=by decide):PE X (.Name x pos) (tVar i):=by
 intro pins s σ H Q I h
 obtain ⟨v,e,h⟩:=h
 obtain ⟨m,hn,hl⟩:=I.loc
 obtain ⟨u,r,l⟩:=hl i x v hN e hv
 have fin:EP X pins σ Q u s:=⟨v,H,I,r,h⟩
 rcases l with ⟨hk,hm⟩|⟨hk,c,hc,hcell⟩
 ·exact wpAny_Name (wpAny_loadName_local I.ok.kind hk hn hm fin) hd
 ·rcases hk with hk|hk
  ·exact wpAny_Name (wpAny_loadName_cell I.ok.kind hk hc hcell fin) hd
  ·exact wpAny_Name (wpAny_loadName_free I.ok.kind hk hc hcell fin hcd) hd
theorem z3 {i j pos}:PE X (.Constant (.int i) j pos) (tC (.int i)):=fun _ _ _ H _ I h=>wpAny_Constant_int ⟨.int i,H,I.tok _,⟨_,rfl⟩,h⟩
theorem zQU {b j pos}:PE X (.Constant (.bool b) j pos) (tC (.bl b)):=fun _ _ _ H _ I h=>Constant_bool ⟨.bl b,H,I,rfl,h⟩
theorem z29 {j pos}:PE X (.Constant .none j pos) (tC .non):=fun _ _ _ H _ I h=>Constant_none ⟨.non,H,I,rfl,h⟩
theorem zZN {x j pos}:PE X (.Constant (.str x) j pos) (tC (.str x)):=fun _ _ _ H _ I h=>Calls.Constant_str ⟨.str x,H,I.tok _,⟨_,rfl⟩,h⟩
def Gl (X:Cx) (x:Str):Prop:=X.env.kindOf x=some .globalImplicit
theorem zUT {E:Value→Shared→Prop}{pins:List (Addr×Obj)}{s:Shared}{σ:St}{H:Hp}{x:Str}{u:Value}{pos:Pos}{Q:Value→Shared→Prop} (I:Inv X pins σ H s) (hg:Gl X x) (hm:X.mg x=some u) (h:Q u s)
  (hd:(x == ("__debug__" : Str))=false:=by decide):wpAny (model X.prog X.w) X.A (eval (.Name x pos) X.env) Q E s:=
 Calls.Name_function_global I.ok.kind hg (Calls.loadGlobal_global (by rw [I.ok.glob];exact I.mod.glob.keeps I.bk) hm h) hd
theorem zTa {E:Value→Shared→Prop}{pins:List (Addr×Obj)}{s:Shared}{σ:St}{H:Hp}{x:Str}{u:Value}{pos:Pos}{Q:Value→Shared→Prop} (I:Inv X pins σ H s) (hg:Gl X x) (hm:X.mg x=none) (hv:bootBuiltins x=some u) (h:Q u s)
  (hn:x≠"__name__" := by decide) (hd:(x == ("__debug__" : Str))=false:=by decide):wpAny (model X.prog X.w) X.A (eval (.Name x pos) X.env) Q E s:=by
 obtain ⟨mb,h1,h2⟩:=I.mod.blt
 exact Calls.Name_function_global I.ok.kind hg (Calls.loadGlobal_builtin (by rw [I.ok.glob];exact I.mod.glob.keeps I.bk) hm (by rw [I.ok.blt];exact h1.keeps I.bk) ((h2 x hn).trans hv) h) hd
variable {a b:Expr}{ta tb:TE}{pos:Pos}
inductive BlI (x:V) (H1:Hp) (Q:Bool→Hp→Prop):Prop
 | mk (c:_) (_:x=.bl c) (_:Q c H1):BlI x H1 Q
def tB (t:TE):TT:=fun σ H Q=>t σ H fun x H1=>BlI x H1 Q
theorem k5 {e:Expr}{t:TE} (h:PE X e t) (he:∀whole,isTrue e X.env whole=(do let v ←whole;standAt e.pos;holding [v] (truthy v)):=by intro _;rfl):PT X e (tB t):=by
 intro pins s σ H Q I hw
 refine isTrue_plain (thn (h pins s σ H _ I hw) fun v s1 ⟨x,H1,I1,r1,q1⟩=>?_) (he _)
 obtain ⟨d,rfl,q⟩:=q1
 cases r1
 exact wpAny_truthy_bool ⟨H1,I1,q⟩
variable {tA tB':TT}{rest:List Expr}
def tAnd (t u:TT):TT:=fun σ H Q=>t σ H fun c H1=>if c=true then u σ H1 Q else Q false H1
def tOr (t u:TT):TT:=fun σ H Q=>t σ H fun c H1=>if c=true then Q true H1 else u σ H1 Q
def tNot (t:TT):TT:=fun σ H Q=>t σ H fun c H1=>Q (!c) H1
theorem z1E (ha:PT X a tA):PW X (.BoolOp .And [a] pos) tA:=by
 intro wh pins s σ H Q I h
 refine isTrue_and (thn (ha pins s σ H Q I h) fun c s1 e=>?_)
 cases c with
 | true=>exact isTrue_and_nil e
 | false=>exact e
theorem zTj (ha:PT X a tA):PW X (.BoolOp .Or [a] pos) tA:=by
 intro wh pins s σ H Q I h
 refine isTrue_or (thn (ha pins s σ H Q I h) fun c s1 e=>?_)
 cases c with
 | false=>exact isTrue_or_nil e
 | true=>exact e
theorem z21 (ha:PT X a tA) (hb:PW X (.BoolOp .And (b::rest) pos) tB'):PW X (.BoolOp .And (a::b::rest) pos) (tAnd tA tB'):=by
 intro wh pins s σ H Q I h
 refine isTrue_and (thn (ha pins s σ H _ I h) fun c s1 ⟨H1,I1,q1⟩=>?_)
 cases c with
 | true=>exact hb wh pins s1 σ H1 Q I1 q1
 | false=>exact ⟨H1,I1,q1⟩
theorem zTP (ha:PT X a tA) (hb:PW X (.BoolOp .Or (b::rest) pos) tB'):PW X (.BoolOp .Or (a::b::rest) pos) (tOr tA tB'):=by
 intro wh pins s σ H Q I h
 refine isTrue_or (thn (ha pins s σ H _ I h) fun c s1 ⟨H1,I1,q1⟩=>?_)
 cases c with
 | true=>exact ⟨H1,I1,q1⟩
 | false=>exact hb wh pins s1 σ H1 Q I1 q1
theorem zZD (ha:PT X a tA):PT X (.UnaryOp .Not a pos) (tNot tA):=by
 intro pins s σ H Q I h
 exact isTrue_not (ha pins s σ H (fun c H1=>Q (!c) H1) I h)
def z5x (ta tb:TE):TE:=fun σ H Q=>ta σ H fun x H1=>∃c,x=.bl c∧if c=true then tb σ H1 Q else Q (.bl false) H1
def tOrV (ta tb:TE):TE:=fun σ H Q=>ta σ H fun x H1=>∃c,x=.bl c∧if c=true then Q (.bl true) H1 else tb σ H1 Q
def z5l (ta:TE):TE:=fun σ H Q=>ta σ H fun x H1=>∃c,x=.bl c∧Q (.bl (!c)) H1
theorem zVf {op}{t:TE} (h:PE X a t):PE X (.BoolOp op [a] pos) t:=fun pins s σ H Q I hw=>BoolOp_one (h pins s σ H Q I hw)
theorem zWq (ha:PE X a ta) (hb:PE X (.BoolOp .And (b::rest) pos) tb):PE X (.BoolOp .And (a::b::rest) pos) (z5x ta tb):=by
 intro pins s σ H Q I h
 refine BoolOp_and (thn (ha pins s σ H _ I h) fun v s1 ⟨x,H1,I1,r1,q1⟩=>?_)
 obtain ⟨c,rfl,q1⟩:=q1
 cases r1
 refine wpAny_truthy_bool ?_
 cases c with
 | true=>exact hb pins s1 σ H1 Q I1 q1
 | false=>exact ⟨.bl false,H1,I1,rfl,q1⟩
theorem z5F (ha:PE X a ta) (hb:PE X (.BoolOp .Or (b::rest) pos) tb):PE X (.BoolOp .Or (a::b::rest) pos) (tOrV ta tb):=by
 intro pins s σ H Q I h
 refine BoolOp_or (thn (ha pins s σ H _ I h) fun v s1 ⟨x,H1,I1,r1,q1⟩=>?_)
 obtain ⟨c,rfl,q1⟩:=q1
 cases r1
 refine wpAny_truthy_bool ?_
 cases c with
 | false=>exact hb pins s1 σ H1 Q I1 q1
 | true=>exact ⟨.bl true,H1,I1,rfl,q1⟩
theorem z5c (ha:PE X a ta):PE X (.UnaryOp .Not a pos) (z5l ta):=by
 intro pins s σ H Q I h
 refine UnaryOp_ (thn (ha pins s σ H _ I h) fun v s1 ⟨x,H1,I1,r1,q1⟩=>?_)
 obtain ⟨c,rfl,q1⟩:=q1
 cases r1
 exact not_of (wpAny_truthy_bool ⟨.bl (!c),H1,I1,rfl,q1⟩)
def tIf (t:TT) (ta tb:TE):TE:=fun σ H Q=>t σ H fun c H1=>if c=true then ta σ H1 Q else tb σ H1 Q
theorem z2x {c:Expr} (hc:PT X c tA) (ha:PE X a ta) (hb:PE X b tb):PE X (.IfExp c a b pos) (tIf tA ta tb):=by
 intro pins s σ H Q I h
 refine wpAny_IfExp (thn (hc pins s σ H _ I h) fun d s1 ⟨H1,I1,q1⟩=>?_)
 cases d with
 | true=>exact ha pins s1 σ H1 Q I1 q1
 | false=>exact hb pins s1 σ H1 Q I1 q1
end
open PySem PySem.Spec PyProof.Rows
def SqL (K:Fg) (H:Hp) (a:Addr) (xs:List V):Prop:=
 Rd H a (.lst xs)∨
  ∃(o:Obj) (its:Array Value) (n:Nat),K.lookup a=some o∧o.cls=.type "list" ∧ o.dict=none∧o.data=.seq its n∧its.size≤sizeLine∧Vals xs its.toList
def SqT (K:Fg) (H:Hp) (a:Addr) (xs:List V):Prop:=
 Rd H a (.tup xs)∨
  ∃(o:Obj) (its:Array Value) (n:Nat),K.lookup a=some o∧o.cls=.type "tuple" ∧ o.data=.seq its n∧its.size≤sizeLine∧Vals xs its.toList
def absV:Value→Option V
 | .none=>some .non
 | .bool b=>some (.bl b)
 | .int i _=>some (.int i)
 | .str x _=>some (.str x)
 | .bytes b _=>some (.byt b)
 | .float b _=>some (.flt b)
 | .ref a=>some (.ref a)
 | .type n=>some (.ty n)
 | _=>none
theorem RelV.abs {x:V}{u:Value} (r:RelV x u):absV u=some x:=by
 cases x with
 | non=>cases r;rfl
 | bl _=>cases r;rfl
 | int _=>obtain ⟨t,rfl⟩:=r;rfl
 | str _=>obtain ⟨t,rfl⟩:=r;rfl
 | byt _=>obtain ⟨t,rfl⟩:=r;rfl
 | flt _=>obtain ⟨t,rfl⟩:=r;rfl
 | ref _=>cases r;rfl
 | ty _=>cases r;rfl
theorem RelV.inj {x y:V}{u:Value} (r:RelV x u) (q:RelV y u):x=y:=zsi (r.abs.symm.trans q.abs)
theorem Vals.inj:∀{xs ys:List V}{us:List Value},Vals xs us→Vals ys us→xs=ys
 | _,_,_,.nil,.nil=>rfl
 | _,_,_,.cons r t,.cons r' t'=>by rw [r.inj r',Vals.inj t t']
section
variable {X:Cx}{pins:List (Addr×Obj)}{σ:St}{H:Hp}{s:Shared}{a:Addr}{xs ys:List V}
theorem SqL.of {K:Fg} (h:H a=some (.lst xs)):SqL K H a xs:=.inl (.inl h)
theorem Inv.list (I:Inv X pins σ H s) (h:SqL X.K H a xs):∃its:List Value,Vals xs its∧PlainL s.heap a its.toArray∧xs.length≤sizeLine:=by
 rcases h with h|⟨o,its,n,hk,hc,hd,hs,hz,r⟩
 ·obtain ⟨z,its,n,r,e⟩:=h.ok I.hok
  exact ⟨its,r,⟨_,n,e,rfl,rfl,rfl⟩,z⟩
 ·refine ⟨its.toList,r,⟨o,n,I.kIn a o hk,hc,hd,by simpa using hs⟩,?_⟩
  have e:=r.length
  simp only [Array.length_toList] at e
  lia
theorem Inv.tuple (I:Inv X pins σ H s) (h:SqT X.K H a xs):∃its:List Value,Vals xs its∧IsTup s.heap a its.toArray∧xs.length≤sizeLine:=by
 rcases h with h|⟨o,its,n,hk,hc,hs,hz,r⟩
 ·obtain ⟨z,its,r,p⟩:=h.ok I.hok
  exact ⟨its,r,p,z⟩
 ·refine ⟨its.toList,r,⟨o,I.kIn a o hk,hc,n,by simpa using hs⟩,?_⟩
  have e:=r.length
  simp only [Array.length_toList] at e
  lia
theorem Inv.list_inj (I:Inv X pins σ H s) (h:SqL X.K H a xs) (h':SqL X.K H a ys):xs=ys:=by
 obtain ⟨its,r,⟨o,n,e,_,_,d⟩,_⟩:=I.list h
 obtain ⟨its',r',⟨o',n',e',_,_,d'⟩,_⟩:=I.list h'
 rw [e] at e';cases e'
 rw [d] at d'
 injection d' with d1 _
 have:its=its':=by simpa using congrArg Array.toList d1
 subst this
 exact r.inj r'
end
abbrev Cx.wish (X:Cx) (E:Value→Shared→Prop):Cx:={ X with xe:=E }
abbrev Cx.nox (X:Cx):Cx:=X.wish fun _ _=>False
theorem Cx.Ok.wish {X:Cx} (ok:X.Ok) (E:Value→Shared→Prop):(X.wish E).Ok:=
 ⟨ok.mod,ok.kind,ok.glob,ok.blt,ok.above,ok.inj,ok.has,ok.cab,ok.hd,ok.frames,ok.stk,ok.exf,ok.bs,ok.bsz,ok.noex,ok.exfs,ok.funs,ok.frf⟩
theorem Cx.Ok.unwish {X:Cx}{E:Value→Shared→Prop} (ok:(X.wish E).Ok):X.Ok:=
 ⟨ok.mod,ok.kind,ok.glob,ok.blt,ok.above,ok.inj,ok.has,ok.cab,ok.hd,ok.frames,ok.stk,ok.exf,ok.bs,ok.bsz,ok.noex,ok.exfs,ok.funs,ok.frf⟩
section
variable {X:Cx}{pins:List (Addr×Obj)}{σ:St}{H:Hp}{s:Shared}{E:Value→Shared→Prop}
theorem Inv.wish (I:Inv X pins σ H s) (E:Value→Shared→Prop):Inv (X.wish E) pins σ H s:=⟨I.ok.wish E,I.os,I.bare,I.base,I.loc,I.cell,I.free,I.freeC,I.pin,I.hok,I.len⟩
theorem Inv.unwish (I:Inv (X.wish E) pins σ H s):Inv X pins σ H s:=⟨I.ok.unwish,I.os,I.bare,I.base,I.loc,I.cell,I.free,I.freeC,I.pin,I.hok,I.len⟩
theorem SP.unwish {D:Ends}{f:Flow}{s':Shared} (h:SP (X.wish E) pins D f s'):SP X pins D f s':=by
 cases f with
 | next=>obtain ⟨σ',H',I,q⟩:=h;exact ⟨σ',H',I.unwish,q⟩
 | brk=>obtain ⟨σ',H',I,q⟩:=h;exact ⟨σ',H',I.unwish,q⟩
 | cont=>obtain ⟨σ',H',I,q⟩:=h;exact ⟨σ',H',I.unwish,q⟩
 | ret u=>obtain ⟨v,σ',H',I,r,q⟩:=h;exact ⟨v,σ',H',I.unwish,r,q⟩
theorem PSs.nox {st:List Stmt}{t:TS} (h:PSs X.nox st t):PSs X st t:=fun pins s σ H D I hw=>
 wpAny_mono (h pins s σ H D (I.wish _) hw) (fun _ _ q=>q.unwish) fun _ _ z=>False.elim z
end
section
variable {X:Cx}{st:Stmt}{rest:List Stmt}{t u:TS}{e:Expr}{te:TE}{pos:Pos}
def z5B:TS:=fun D σ H=>D.nx σ H
def tSeq (t u:TS):TS:=fun D σ H=>t { D with nx:=u D } σ H
theorem z7:PSs X [] z5B:=fun _ _ σ H _ I h=>wpAny_execs_nil ⟨σ,H,I,h⟩
theorem zW (h1:PS X st t) (h2:PSs X rest u):PSs X (st::rest) (tSeq t u):=by
 intro pins s σ H D I h
 refine wpAny_execs_cons (thn (h1 pins s σ H { D with nx:=u D } I h) fun f s1 q=>?_)
 cases f with
 | next=>
  obtain ⟨σ',H',I',q⟩:=q
  exact h2 pins s1 σ' H' D I' q
 | ret v=>exact q
 | brk=>exact q
 | cont=>exact q
theorem zV (h1:PS X st t):PSs X [st] t:=by
 intro pins s σ H D I h
 refine wpAny_execs_cons (thn (h1 pins s σ H D I h) fun f s1 q=>?_)
 cases f with
 | next=>exact wpAny_execs_nil q
 | ret v=>exact q
 | brk=>exact q
 | cont=>exact q
theorem Inv.quiet {pins:List (Addr×Obj)}{σ:St}{H:Hp}{s:Shared} (I:Inv X pins σ H s):interactive X.env=false:=by simp [interactive,I.ok.kind]
def z5I (te:TE):TS:=fun D σ H=>te σ H fun _ H1=>D.nx σ H1
theorem jZ (he:PE X e te) (hs:swapsWith e none pos.line X.env=pure false:=by rfl):PS X (.Expr e pos) (z5I te):=by
 intro pins s σ H D I h
 exact wpAny_Expr_any (thn (he pins s σ H _ I h) fun v s1 ⟨x,H1,I1,r1,q1⟩=>⟨σ,H1,I1,q1⟩) I.quiet hs
def tRet (te:TE):TS:=fun D σ H=>te σ H D.rt
theorem zQ (he:PE X e te):PS X (.Return (some e) pos) (tRet te):=by
 intro pins s σ H D I h
 exact wpAny_Return_some (thn (he pins s σ H _ I h) fun v s1 ⟨x,H1,I1,r1,q1⟩=>⟨x,σ,H1,I1,r1,q1⟩)
def tIfS (c:TT) (t u:TS):TS:=fun D σ H=>c σ H fun b H1=>if b=true then t D σ H1 else u D σ H1
theorem yO {c:Expr}{a b:List Stmt}{tc:TT} (hc:PT X c tc) (ha:PSs X a t) (hb:PSs X b u):PS X (.If c a b pos) (tIfS tc t u):=by
 intro pins s σ H D I h
 refine wpAny_If (thn (hc pins s σ H _ I h) fun d s1 ⟨H1,I1,q1⟩=>?_)
 cases d with
 | true=>exact ha pins s1 σ H1 D I1 q1
 | false=>exact hb pins s1 σ H1 D I1 q1
end
abbrev TG:=V→St→Hp→(St→Hp→Prop)→Prop
abbrev TGs:=List V→St→Hp→(St→Hp→Prop)→Prop
def PG (X:Cx) (target:Expr) (t:TG):Prop:=
 ∀(pins:List (Addr×Obj)) (s:Shared) (σ:St) (H:Hp) (v:V) (u:Value) (Q:St→Hp→Prop),Inv X pins σ H s→RelV v u→t v σ H Q→
  wpAny (model X.prog X.w) X.A (assign target X.env u) (fun _ s'=>∃σ' H',Inv X pins σ' H' s'∧Q σ' H') X.xe s
def PGs (X:Cx) (ts:List Expr) (t:TGs):Prop:=
 ∀(pins:List (Addr×Obj)) (s:Shared) (σ:St) (H:Hp) (vs:List V) (us:List Value) (Q:St→Hp→Prop),Inv X pins σ H s→Vals vs us→t vs σ H Q→
  wpAny (model X.prog X.w) X.A (assignInOrder ((assignEach ts X.env).map (·.2)) us) (fun _ s'=>∃σ' H',Inv X pins σ' H' s'∧Q σ' H') X.xe s
abbrev TSet:=V→V→V→Hp→(Hp→Prop)→Prop
def PSet (X:Cx) (t:TSet):Prop:=
 ∀(pins:List (Addr×Obj)) (s:Shared) (σ:St) (H:Hp) (o i v:V) (ov iv u:Value) (Q:Hp→Prop),Inv X pins σ H s→RelV o ov→RelV i iv→RelV v u→t o i v H Q→
  wpAny (model X.prog X.w) X.A (setItem ov iv u) (fun _ s'=>∃H',Inv X pins σ H' s'∧Q H') X.xe s
section
variable {X:Cx}{pos:Pos}
def z2b (i:Nat):TG:=fun v σ H Q=>Q (σ.set i (some v)) H
theorem yZ {i:Nat}{x:Str} (hN:X.N.Nodup) (hi:X.N[i]?=some x:=by rfl) (hx:Loc X.env.scope x:=by first|exact Or.inl rfl|exact Or.inr rfl) (hf:X.fn x=true∨X.env.scope.names.lookup x=some .local:=by first|exact .inl rfl|exact .inr rfl|assumption):PG X (.Name x pos) (z2b i):=by
 intro pins s σ H v u Q I r h
 exact wpAny_assign_Name (zR6 I hN hi hx r (fun s' I'=>⟨_,H,I',h⟩) hf)
def gNil:TGs:=fun vs σ H Q=>vs=[]∧Q σ H
def z5m (t:TG) (u:TGs):TGs:=fun vs σ H Q=>∃v r,vs=v::r∧t v σ H fun σ' H'=>u r σ' H' Q
theorem zRE:PGs X [] gNil:=by
 intro pins s σ H vs us Q I r h
 obtain ⟨e,h⟩:=h
 subst e
 cases r
 exact assignInOrder_nil ⟨σ,H,I,h⟩
theorem zXh {e:Expr}{es:List Expr}{t:TG}{u:TGs} (h1:PG X e t) (h2:PGs X es u)
  (hs:(assignEach (e::es) X.env).map (·.2)=assign e X.env::(assignEach es X.env).map (·.2):=by rfl):PGs X (e::es) (z5m t u):=by
 intro pins s σ H vs us Q I r h
 obtain ⟨v,vr,e1,h⟩:=h
 subst e1
 cases r with
 | cons r rr=>
  rw [hs]
  refine assignInOrder_cons (thn (h1 pins s σ H _ _ _ I r h) fun _ s1 ⟨σ1,H1,I1,q1⟩=>?_)
  exact h2 pins s1 σ1 H1 _ _ Q I1 rr q1
def gTup (K:Fg) (n:Nat) (t:TGs):TG:=fun v σ H Q=>∃a xs,v=.ref a∧SqT K H a xs∧xs.length=n∧t xs σ H Q
theorem z42 {es:List Expr}{k:Nat}{t:TGs}{n:Nat} (hc:X.calm=true) (h:PGs X es t)
  (hn:(assignEach es X.env).length=n:=by rfl) (hst:(assignEach es X.env).findIdx? (·.1)=none:=by rfl):PG X (.Tuple es k pos) (gTup X.K n t):=by
 intro pins s σ H v u Q I r hw
 obtain ⟨a,xs,e1,hq,hl,hw⟩:=hw
 subst e1
 cases r
 obtain ⟨its,rv,ht,hz⟩:=I.tuple hq
 refine assign_Tuple_tuple (I.ok.hd hc) ht (by simp [hn,←hl,rv.length]) hst fun h' hx=>?_
 have I1:Inv X pins σ H { s with heap:=h' }:=I.kept (t':=s.toks) fun b o e=>hx b o (Nat.ne_of_lt (Heap.lt_size e)) e
 exact h pins _ σ H xs _ Q I1 (by simpa using rv) hw
def gSub (to ti:TE) (t:TSet):TG:=fun v σ H Q=>to σ H fun o H1=>ti σ H1 fun i H2=>t o i v H2 fun H3=>Q σ H3
theorem zQt {o i:Expr}{to ti:TE}{t:TSet} (ho:PE X o to) (hi:PE X i ti) (hs:PSet X t)
  (ha:∀v,assign (.Subscript o i pos) X.env v=(do
   let ov ←holding [v] (eval o X.env)
   let iv ←holding [v,ov] (eval i X.env)
   standAt pos
   holding [v,ov,iv] (setItem ov iv v)
   release [v,ov,iv] []):=by intro _;rfl):PG X (.Subscript o i pos) (gSub to ti t):=by
 intro pins s σ H v u Q I r h
 rw [ha]
 refine wpAny_bind (wpAny_holding (thn (ho pins s σ H _ I h) fun ov s1 ⟨x,H1,I1,r1,q1⟩=>?_))
 refine wpAny_bind (wpAny_holding (thn (hi pins s1 σ H1 _ I1 q1) fun iv s2 ⟨y,H2,I2,r2,q2⟩=>?_))
 refine wpAny_bind (wpAny_standAt (wpAny_bind (wpAny_holding (thn (hs pins s2 σ H2 x y v ov iv u _ I2 r1 r2 r q2) fun _ s3 ⟨H3,I3,q3⟩=>?_))))
 exact wpAny_release ⟨σ,H3,I3,q3⟩
def tAsg (te:TE) (g:TG):TS:=fun D σ H=>te σ H fun x H1=>g x σ H1 D.nx
theorem zQq {tg e:Expr}{te:TE}{g:TG} (he:PE X e te) (hg:PG X tg g) (hs:swapsWithSole [tg] e pos.line X.env=pure false:=by rfl) (hw:swappedStores [tg] e X.env=pure none:=by rfl)
  (h1:(assignEach [tg] X.env).map (·.2)=[assign tg X.env]:=by rfl):PS X (.Assign [tg] e pos) (tAsg te g):=by
 intro pins s σ H D I h
 refine wpAny_Assign_stores (thn (he pins s σ H _ I h) fun v s1 ⟨x,H1,I1,r1,q1⟩=>?_) hs hw
 rw [h1]
 exact thn (hg pins s1 σ H1 x v _ I1 r1 q1) fun _ s2 q=>q
theorem yY {i:Nat}{x:Str}{e:Expr}{te:TE}{pos':Pos} (hN:X.N.Nodup) (he:PE X e te) (hi:X.N[i]?=some x:=by rfl) (hx:Loc X.env.scope x:=by first|exact Or.inl rfl|exact Or.inr rfl) (hs:swapsWith e (some (.Name x pos')) pos.line X.env=pure false:=by rfl) (hf:X.fn x=true∨X.env.scope.names.lookup x=some .local:=by first|exact .inl rfl|exact .inr rfl|assumption):
  PS X (.Assign [.Name x pos'] e pos) (tAsg te (z2b i)):=by
 intro pins s σ H D I h
 refine wpAny_Assign_Name (thn (he pins s σ H _ I h) fun v s1 ⟨y,H1,I1,r1,q1⟩=>?_) hs
 exact zR6 I1 hN hi hx r1 (fun s2 I2=>⟨_,H1,I2,q1⟩) hf
end
section
variable {X:Cx}{pos:Pos}
def z4p (c:TT) (tb:TS):TS:=fun D σ H=>∃W:Nat→St→Hp→Prop,(∃m,W m σ H)∧∀m σ H,W m σ H→
 c σ H fun b H1=>if b=true then ∃N:St→Hp→Prop,(∀σ' H',N σ' H'→∃m',m' < m∧W m' σ' H')∧tb { D with nx:=N,ct:=N,bk:=D.nx } σ H1 else D.nx σ H1
theorem zTU {c:Expr}{body:List Stmt}{tc:TT}{tb:TS} (hp:PassesOwn (model X.prog X.w) X.A X.env X.xe) (hc:PT X c tc) (hb:PSs X body tb):PS X (.While c body [] pos) (z4p tc tb):=by
 intro pins s σ H D I h
 obtain ⟨W,⟨m0,w0⟩,turn⟩:=h
 refine wpAny_While (codeAny_whileLoop (fun n s'=>∃σ' H',Inv X pins σ' H' s'∧W n σ' H') ?_ m0 ⟨σ,H,I,w0⟩)
 rintro n s1 ⟨σ1,H1,I1,w1⟩
 refine wpAny_passesOwn hp (thn (hc pins s1 σ1 H1 _ I1 (turn n σ1 H1 w1)) fun b s2 ⟨H2,I2,q2⟩=>?_)
 cases b with
 | true=>
  obtain ⟨N,hN,q2⟩:=q2
  rw [if_pos rfl]
  refine wpAny_passesOwn hp (thn (hb pins s2 σ1 H2 _ I2 q2) fun f s3 q3=>?_)
  cases f with
  | next=>
   obtain ⟨σ3,H3,I3,n3⟩:=q3
   obtain ⟨m',hm,w3⟩:=hN σ3 H3 n3
   exact ⟨m',hm,σ3,H3,I3,w3⟩
  | cont=>
   obtain ⟨σ3,H3,I3,n3⟩:=q3
   obtain ⟨m',hm,w3⟩:=hN σ3 H3 n3
   exact ⟨m',hm,σ3,H3,I3,w3⟩
  | brk=>exact q3
  | ret v=>exact q3
 | false=>
  rw [if_neg Bool.false_ne_true]
  exact wpAny_execs_nil ⟨σ1,H2,I2,q2⟩
end
structure It where
 go:Nat→Hp→Prop
 yld:Nat→Hp→V→Hp→Prop
 stop:Nat→Hp→Prop
def FpOk (X:Cx) (pins:List (Addr×Obj)) (H:Hp) (b:Addr):Prop:=
 H b=none∧b≠X.env.locals∧b∉X.fs∧(b∈X.ex∨X.s_0.heap.objs.size≤b)∧(∀x c,X.env.cells.lookup x=some c→c≠b)∧∀p∈X.pn++pins,p.1≠b
theorem Inv.fpOk {X:Cx}{pins:List (Addr×Obj)}{σ:St}{H H':Hp}{s:Shared}{b:Addr} (I:Inv X pins σ H s) (hb:s.heap.objs.size≤b) (hn:H' b=none):FpOk X pins H' b:=by
 refine ⟨hn,Nat.ne_of_gt (Nat.lt_of_lt_of_le I.lt hb),I.nofs hb,.inr (Nat.le_trans I.sz hb),fun x c e z=>?_,fun p hp z=>?_⟩
 ·obtain ⟨v,q⟩:=I.cell x c e
  exact absurd (Nat.lt_of_lt_of_le q.lt (by rw [z];exact hb)) (Nat.lt_irrefl _)
 ·exact absurd (Nat.lt_of_lt_of_le (Heap.lt_size (I.pin p hp).1) (by rw [z];exact hb)) (Nat.lt_irrefl _)
structure Turn (P:Program) (w:World) (K:Fg) (tg:Expr) (J:It) (fp:List Addr) (it:Addr) (tn:Nat→Heap→Prop):Prop where
 mem:it∈fp
 obj:∀i h,tn i h→∀b∈fp,∃o,h.get? b=some o∧∀v,o.data≠.cell v
 keep:∀i h h',tn i h→(∀b∈fp,∀o,h.get? b=some o→h'.get? b=some o)→tn i h'
 item:∀(X:Cx),X.prog=P→X.w=w→X.K=K→X.calm=true→∀(i:Nat) (pins:List (Addr×Obj)) (s:Shared) (σ:St) (H:Hp) (E:Value→Shared→Prop),Inv X pins σ H s→(∀b∈fp,FpOk X pins H b)→tn i s.heap→J.go i H→
  wpAny (model P w) X.A (pyNext (.ref it)) (fun r s1=>∃u,r=some u∧
   wpAny (model P w) X.A (letOwnedTupleGo tg (.ref it) u) (fun _ s2=>∃x H',Inv X pins σ H' s2∧RelV x u∧J.yld i H x H'∧tn (i+1) s2.heap∧∀b∈fp,H' b=none) E s1) E s
 done:∀(X:Cx),X.prog=P→X.w=w→X.K=K→X.calm=true→∀(i:Nat) (pins:List (Addr×Obj)) (s:Shared) (σ:St) (H:Hp) (E:Value→Shared→Prop),Inv X pins σ H s→(∀b∈fp,FpOk X pins H b)→tn i s.heap→J.stop i H→
  wpAny (model P w) X.A (pyNext (.ref it)) (fun r s1=>r=none∧Inv X pins σ H s1) E s
 self:∀(A:Around) (i:Nat) (s:Shared) (Q:Value→Shared→Prop) (E:Value→Shared→Prop),tn i s.heap→Q (.ref it) s→wpAny (model P w) A (pyIter (.ref it)) Q E s
abbrev TI:=St→Hp→(It→Hp→Prop)→Prop
def PIE (X:Cx) (pins:List (Addr×Obj)) (σ:St) (tg:Expr) (R:It→Hp→Prop) (itv:Value) (s2:Shared):Prop:=
 ∃(it:Addr) (fp:List Addr) (tn:Nat→Heap→Prop) (J:It) (H':Hp),itv=.ref it∧Inv X pins σ H' s2∧Turn X.prog X.w X.K tg J fp it tn∧tn 0 s2.heap∧(∀b∈fp,FpOk X pins H' b)∧R J H'
def PI (X:Cx) (tg iter:Expr) (wi:TI):Prop:=
 ∀(pins:List (Addr×Obj)) (s:Shared) (σ:St) (H:Hp) (R:It→Hp→Prop),Inv X pins σ H s→wi σ H R→
  wpAny (model X.prog X.w) X.A (eval iter X.env) (fun v s1=>wpAny (model X.prog X.w) X.A (pyIter v) (PIE X pins σ tg R) X.xe s1) X.xe s
theorem z3p {M:Model}{A:Around}{E:Value→Shared→Prop}{s:Shared}{tg:Expr}{it:Addr}{u:Value}{o:Obj}{n:String}{vs:Array Value}{Q:Unit→Shared→Prop} (ho:s.heap.get? it=some o) (hc:o.cls=.type n) (hd:o.data=.fields vs)
  (hn:["enumerate", "zip", "dict_itemiterator", "dict_reverseitemiterator", "odict_iterator", "itertools.zip_longest", "itertools.pairwise"].contains n=false) (hQ:Q () s):wpAny M A (letOwnedTupleGo tg (.ref it) u) Q E s:=by
 unfold letOwnedTupleGo
 cases tg<;>first
  | exact wpAny_pure hQ
  | (cases u<;>first
    | exact wpAny_pure hQ
    | (refine wpAny_bind (wpAny_load ho ?_)
       rw [hc,hd]
       show wpAny M A (if (["enumerate", "zip", "dict_itemiterator", "dict_reverseitemiterator", "odict_iterator", "itertools.zip_longest", "itertools.pairwise"].contains n && vs[0]? == some (rawInt _))=true then _ else _) Q E s
       rw [if_neg (by intro h;rw [hn,Bool.false_and] at h;cases h)]
       exact wpAny_pure hQ))
def Itl (K:Fg) (a:Addr):It:=
 ⟨fun i H=>∃xs x,SqL K H a xs∧xs[i]?=some x,fun i H x H'=>H'=H∧∀xs,SqL K H a xs→xs[i]?=some x,fun i H=>∃xs,SqL K H a xs∧xs.length≤i⟩
def Itr (lo:Int) (n:Nat):It:=⟨fun i _=>i < n,fun i H x H'=>H'=H∧x=.int (lo+i),fun i _=>n≤i⟩
theorem z1v {P:Program}{w:World}{K:Fg}{tg:Expr} (a it:Addr):Turn P w K tg (Itl K a) [it] it (fun i h=>h.IsListIter it a i) where
 mem:=by simp
 obj:=fun i h st b hb=>by
  have e:b=it:=by simpa using hb
  subst e
  obtain ⟨o,e,c,d⟩:=st
  exact ⟨o,e,fun v z=>by rw [d] at z;cases z⟩
 keep:=fun i h h' st k=>st.at fun o e=>k it (by simp) o e
 item:=by
  intro X hP hw hK hc i pins s σ H E I hf st hg
  subst hP hw hK
  obtain ⟨xs,x,hq,hx⟩:=hg
  obtain ⟨its,rv,p,hz⟩:=I.list hq
  obtain ⟨u,hu,ru⟩:=rv.get hx
  obtain ⟨f0,f1,f2,f3,f4,f5⟩:=hf it (by simp)
  refine wpAny_pyNext_list_item st p.isList (x:=u) (by simpa using hu) fun h' st' sb=>?_
  have I1:Inv X pins σ H { s with heap:=h' }:=I.turned (t':=s.toks) (fun b o hb e=>(sb.2 b hb).trans e) f0 f1 f3 f4 f5
  obtain ⟨o,e,c,d⟩:=id st'
  exact ⟨u,rfl,z3p (s:={ s with heap:=h' }) e c d (by decide) ⟨x,H,I1,ru,⟨rfl,fun ys hy=>by rw [I.list_inj hy hq];exact hx⟩,st',fun b hb=>(hf b hb).1⟩⟩
 done:=by
  intro X hP hw hK hc i pins s σ H E I hf st hg
  subst hP hw hK
  obtain ⟨xs,hq,hx⟩:=hg
  obtain ⟨its,rv,p,hz⟩:=I.list hq
  obtain ⟨f0,f1,f2,f3,f4,f5⟩:=hf it (by simp)
  have hl:=rv.length
  exact wpAny_pyNext_list_end (I.ok.hd hc) st p.isList (by simp;lia) fun h' eb=>⟨rfl,I.turned (t':=s.toks) (fun b o hb e=>eb b o hb e) f0 f1 f3 f4 f5⟩
 self:=fun _ _ _ _ _ st h=>wpAny_pyIter_listiter st h
theorem zQM {P:Program}{w:World}{K:Fg}{tg:Expr} (it:Addr) (lo:Int) (n:Nat):Turn P w K tg (Itr lo n) [it] it (fun i h=>IsRangeIter h it (lo+(i:Nat) * 1) ((n:Int)-(i:Nat)) 1) where
 mem:=by simp
 obj:=fun i h st b hb=>by
  have e:b=it:=by simpa using hb
  subst e
  exact ⟨_,st,fun v z=>by
   have z':Data.fields _=Data.cell v:=z
   cases z'⟩
 keep:=fun i h h' st k=>k it (by simp) _ st
 item:=by
  intro X hP hw hK hc i pins s σ H E I hf st hg
  subst hP hw hK
  obtain ⟨f0,f1,f2,f3,f4,f5⟩:=hf it (by simp)
  have W:=Walks.range (prog:=X.prog) (w:=X.w) (I.ok.hd hc) it lo 1 n
  refine W.item i s _ _ hg st fun v h' tk hv st' kk=>?_
  obtain ⟨t,rfl⟩:=hv
  have I1:Inv X pins σ H { s with heap:=h',toks:=tk }:=I.turned (fun b o hb e=>kk b o (by simpa using hb) e) f0 f1 f3 f4 f5
  refine ⟨_,rfl,z3p (s:={ s with heap:=h',toks:=tk }) (n:="range_iterator") st' rfl rfl (by decide) ⟨.int (lo+i),H,I1,⟨t,?_⟩,⟨rfl,rfl⟩,st',fun b hb=>(hf b hb).1⟩⟩
  rw [Int.mul_one]
 done:=by
  intro X hP hw hK hc i pins s σ H E I hf st hg
  subst hP hw hK
  obtain ⟨f0,f1,f2,f3,f4,f5⟩:=hf it (by simp)
  exact wpAny_pyNext_range_end (I.ok.hd hc) st (by have:n≤i:=hg;lia) fun h' eb=>⟨rfl,I.turned (t':=s.toks) (fun b o hb e=>eb b o hb e) f0 f1 f3 f4 f5⟩
 self:=fun _ _ _ _ _ st h=>wpAny_pyIter_rangeiter st h
open PySem PySem.Spec PyProof.Rows
section
variable {X:Cx}{tg:Expr}
def z41 (K:Fg) (tl:TE):TI:=fun σ H R=>tl σ H fun x H1=>∃a,x=.ref a∧(∃xs,SqL K H1 a xs)∧R (Itl K a) H1
theorem z3K {l:Expr}{tl:TE} (hl:PE X l tl):PI X tg l (z41 X.K tl):=by
 intro pins s σ H R I h
 refine thn (hl pins s σ H _ I h) fun v s1 ⟨x,H1,I1,r1,q1⟩=>?_
 obtain ⟨a,e,⟨xs,hq⟩,q⟩:=q1
 subst e
 cases r1
 obtain ⟨its,rv,p,hz⟩:=I1.list hq
 refine wpAny_pyIter_list p.isList ?_
 refine ⟨s1.heap.objs.size,[s1.heap.objs.size],_,_,H1,rfl,I1.kept (t':=s1.toks) fun b o e=>Heap.get?_push_of_some _ e,z1v a _,⟨_,Heap.get?_push_size _ rfl,rfl,rfl⟩,fun b hb=>?_,q⟩
 have e:b=s1.heap.objs.size:=by simpa using hb
 subst e
 exact I1.fpOk (Nat.le_refl _) (I1.hok.fresh (Nat.le_refl _))
theorem z2D {pins:List (Addr×Obj)}{σ:St}{H:Hp}{s:Shared}{R:It→Hp→Prop}{E:Value→Shared→Prop}{lo hi:Int}{t u v:Tok}{tk:Nat} (I:Inv X pins σ H s) (h1:-(2 ^ 62)≤lo) (h2:lo < 2 ^ 62) (h3:-(2 ^ 62)≤hi) (h4:hi < 2 ^ 62)
  (q:R (Itr lo (hi-lo).toNat) H):wpAny (model X.prog X.w) X.A (pyIter (.ref s.heap.objs.size)) (PIE X pins σ tg R) E { s with heap:=s.heap.push { cls:=.type "range", data:=.fields #[.int lo t,.int hi u,.int 1 v] },toks:=tk }:=by
 refine wpAny_pyIter_range (IsRange.new ..) (small_one h1 h2 h3 h4) ?_
 have I1:Inv X pins σ H { s with heap:=s.heap.push { cls:=.type "range", data:=.fields #[.int lo t,.int hi u,.int 1 v] },toks:=tk }:=I.kept fun b o e=>Heap.get?_push_of_some _ e
 refine ⟨(s.heap.push { cls:=.type "range", data:=.fields #[.int lo t,.int hi u,.int 1 v] }).objs.size,[(s.heap.push { cls:=.type "range", data:=.fields #[.int lo t,.int hi u,.int 1 v] }).objs.size],_,_,H,rfl,
  I1.kept (t':=tk) fun b o e=>Heap.get?_push_of_some _ e,zQM _ lo (hi-lo).toNat,?_,fun b hb=>?_,q⟩
 ·have e1:lo+((0:Nat):Int) * 1=lo:=by simp
  have e2:(((hi-lo).toNat:Nat):Int)-((0:Nat):Int)=Builtin.Range.rangeSize lo hi 1:=by rw [rangeSize_one];split<;>lia
  show IsRangeIter _ _ (lo+((0:Nat):Int) * 1) ((((hi-lo).toNat:Nat):Int)-((0:Nat):Int)) 1
  rw [e1,e2]
  exact Heap.get?_push_size _ rfl
 ·have e:b=(s.heap.push { cls:=.type "range", data:=.fields #[.int lo t,.int hi u,.int 1 v] }).objs.size:=by simpa using hb
  subst e
  exact I1.fpOk (Nat.le_refl _) (I1.hok.fresh (Nat.le_refl _))
def z5E (ta:TA):TI:=fun σ H R=>ta σ H fun vs H1=>∃j:Int,vs=[.int j]∧-(2 ^ 62)≤j∧j < 2 ^ 62∧R (Itr 0 j.toNat) H1
theorem wO {a:Expr}{ta:TA}{p pos:Pos} (hg:Gl X "range") (hm:X.mg "range" = none) (ha:PA X [a] ta) (hs:starEach [a] X.env=[(false,eval a X.env)]:=by rfl):PI X tg (.Call (.Name "range" p) [a] [] pos) (z5E ta):=by
 intro pins s σ H R I h
 refine Call_ (zTa I hg hm boot_range (PyProof.Rows.callWith_type1 (thn (ha pos pins s σ H _ I h) fun us s1 ⟨vs,H1,I1,r1,q1⟩=>?_) hs rfl))
 obtain ⟨j,e,q1,q2,q⟩:=q1
 subst e
 cases r1 with
 | cons r rr=>
  cases rr
  obtain ⟨t,rfl⟩:=r
  exact call_range_1 (z2D I1 (by lia) (by lia) q1 q2 (by simpa using q))
def tFor (wi:TI) (g:TG) (tb:TS):TS:=fun D σ H=>wi σ H fun J H1=>∃W:Nat→Nat→St→Hp→Prop,(∃m,W 0 m σ H1)∧∀i m σ H,W i m σ H→
 (J.stop i H∧D.nx σ H)∨(J.go i H∧∃N:St→Hp→Prop,(∀σ' H',N σ' H'→∃m',m' < m∧W (i+1) m' σ' H')∧∀x H',J.yld i H x H'→g x σ H' fun σ2 H2=>tb { D with nx:=N,ct:=N,bk:=D.nx } σ2 H2)
def zSx (fp:List Addr) (h:Heap):List (Addr×Obj):=fp.filterMap fun b=>(h.get? b).map fun o=>(b,o)
theorem zWJ {fp:List Addr}{h:Heap}{b:Addr}{o:Obj} (hb:b∈fp) (e:h.get? b=some o):(b,o)∈zSx fp h:=List.mem_filterMap.mpr ⟨b,hb,by rw [e];rfl⟩
theorem z0P {fp:List Addr}{h:Heap}{p:Addr×Obj} (hp:p∈zSx fp h):p.1∈fp∧h.get? p.1=some p.2:=by
 obtain ⟨b,hb,e⟩:=List.mem_filterMap.mp hp
 cases q:h.get? b with
 | none=>rw [q] at e;cases e
 | some o=>
  rw [q] at e
  have e':(b,o)=p:=zsi e
  subst e'
  exact ⟨hb,q⟩
theorem Inv.pinned {pins:List (Addr×Obj)}{σ:St}{H:Hp}{s:Shared}{fp:List Addr} (I:Inv X pins σ H s) (hf:∀b∈fp,FpOk X pins H b) (ho:∀b∈fp,∃o,s.heap.get? b=some o∧∀v,o.data≠.cell v):Inv X (pins++zSx fp s.heap) σ H s:=
 I.pins_of fun p hp=>(List.mem_append.mp hp).elim (fun z=>I.pin p (List.mem_append_right _ z)) fun z=>by
  obtain ⟨hb,e⟩:=z0P z
  obtain ⟨f0,f1,f2,_⟩:=hf p.1 hb
  obtain ⟨o,e',d⟩:=ho p.1 hb
  rw [e] at e';cases e'
  exact ⟨e,f0,f1,f2,d⟩
theorem Inv.unpinned {pins pl:List (Addr×Obj)}{σ:St}{H:Hp}{s:Shared} (I:Inv X (pins++pl) σ H s):Inv X pins σ H s:=I.pins_of fun p hp=>I.pin p (List.mem_append_right _ (List.mem_append_left _ hp))
theorem kQ {iter:Expr}{body:List Stmt}{wi:TI}{g:TG}{tb:TS}{pos:Pos} (hp:PassesOwn (model X.prog X.w) X.A X.env X.xe) (hc:X.calm=true) (hi:PI X tg iter wi) (hg:PG X tg g) (hb:PSs X body tb)
  (hs:∀x,foldedSetIterable iter X.env x=pure x:=by intro _;rfl):PS X (.For tg iter body [] pos) (tFor wi g tb):=by
 intro pins s σ H D I h
 refine wpAny_For (thn (hi pins s σ H _ I h) fun v s1 h1=>thn h1 fun itv s2 h2=>?_) hs
 obtain ⟨it,fp,tn,J,H2,e,I2,T,st2,f2,W,⟨m0,w0⟩,turn⟩:=h2
 subst e
 have stat:∀{H':Hp},(∀b∈fp,H' b=none)→∀b∈fp,FpOk X pins H' b:=fun hn b hb=>⟨hn b hb,(f2 b hb).2⟩
 refine codeAny_forLoop_any (fun n s'=>∃i σ' H',Inv X pins σ' H' s'∧tn i s'.heap∧(∀b∈fp,H' b=none)∧W i n σ' H') ?_ m0 ⟨0,σ,H2,I2,st2,fun b hb=>(f2 b hb).1,w0⟩
 rintro n s3 ⟨i,σ3,H3,I3,st3,fr3,w3⟩
 rcases turn i n σ3 H3 w3 with ⟨stop,qn⟩|⟨go,N,hN,step⟩
 ·refine wpAny_passesOwn hp (thn (T.done X rfl rfl rfl hc i pins s3 σ3 H3 X.xe I3 (stat fr3) st3 stop) fun r s4 ⟨hr,I4⟩=>?_)
  subst hr
  exact wpAny_execs_nil ⟨σ3,H3,I4,qn⟩
 ·refine wpAny_passesOwn hp (thn (T.item X rfl rfl rfl hc i pins s3 σ3 H3 X.xe I3 (stat fr3) st3 go) fun r s4 ⟨u,hr,h4⟩=>?_)
  subst hr
  refine wpAny_passesOwn hp (thn h4 fun _ s5 ⟨x,H5,I5,r5,y5,st5,fr5⟩=>?_)
  have I5':=I5.pinned (stat fr5) (T.obj _ _ st5)
  refine wpAny_passesOwn hp (thn (hg _ s5 σ3 H5 x u _ I5' r5 (step x H5 y5)) fun _ s6 ⟨σ6,H6,I6,q6⟩=>?_)
  refine wpAny_passesOwn hp (thn (hb _ s6 σ6 H6 _ I6 q6) fun f s7 q7=>?_)
  have again:∀{σ7:St}{H7:Hp},Inv X (pins++zSx fp s5.heap) σ7 H7 s7→N σ7 H7→∃m,m < n∧∃i σ' H',Inv X pins σ' H' s7∧tn i s7.heap∧(∀b∈fp,H' b=none)∧W i m σ' H':=fun {σ7 H7} I7 n7=>by
   obtain ⟨m',hm,w7⟩:=hN σ7 H7 n7
   refine ⟨m',hm,i+1,σ7,H7,I7.unpinned,T.keep _ _ _ st5 fun b hb o e=>(I7.pin (b,o) (List.mem_append_right _ (List.mem_append_right _ (zWJ hb e)))).1,fun b hb=>?_,w7⟩
   obtain ⟨o,e,d⟩:=T.obj _ _ st5 b hb
   exact (I7.pin (b,o) (List.mem_append_right _ (List.mem_append_right _ (zWJ hb e)))).2.1
  cases f with
  | next=>obtain ⟨σ7,H7,I7,n7⟩:=q7;exact again I7 n7
  | cont=>obtain ⟨σ7,H7,I7,n7⟩:=q7;exact again I7 n7
  | brk=>obtain ⟨σ7,H7,I7,q7⟩:=q7;exact ⟨σ7,H7,I7.unpinned,q7⟩
  | ret v=>obtain ⟨x7,σ7,H7,I7,r7,q7⟩:=q7;exact ⟨x7,σ7,H7,I7.unpinned,r7,q7⟩
end
open PySem PySem.Spec PyProof.Rows
abbrev R2:=V→V→Hp→VK→Prop
def OpR (X:Cx) (f:Value→Value→Sem Value) (r:R2):Prop:=
 ∀(pins:List (Addr×Obj)) (s:Shared) (σ:St) (H:Hp) (x y:V) (v u:Value) (Q:VK),Inv X pins σ H s→RelV x v→RelV y u→r x y H Q→
  wpAny (model X.prog X.w) X.A (f v u) (EP X pins σ Q) X.xe s
def UnR (X:Cx) (f:Value→Sem Value) (r:V→Hp→VK→Prop):Prop:=
 ∀(pins:List (Addr×Obj)) (s:Shared) (σ:St) (H:Hp) (x:V) (v:Value) (Q:VK),Inv X pins σ H s→RelV x v→r x H Q→
  wpAny (model X.prog X.w) X.A (f v) (EP X pins σ Q) X.xe s
def k9 (X:Cx) (f:Value) (r:List V→Hp→VK→Prop):Prop:=
 ∀(pins:List (Addr×Obj)) (s:Shared) (σ:St) (H:Hp) (xs:List V) (us:List Value) (Q:VK),Inv X pins σ H s→Vals xs us→r xs H Q→
  wpAny (model X.prog X.w) X.A (call f us) (EP X pins σ Q) X.xe s
def tOp (r:R2) (ta tb:TE):TE:=fun σ H Q=>ta σ H fun x H1=>tb σ H1 fun y H2=>r x y H2 Q
def tUn (r:V→Hp→VK→Prop) (ta:TE):TE:=fun σ H Q=>ta σ H fun x H1=>r x H1 Q
inductive rI (C:Int→Int→Prop) (g:Int→Int→V) (x:V) (y:V) (H:Hp) (Q:VK):Prop
 | mk (i:_) (j:_) (_:x=.int i) (_:y=.int j) (_:C i j) (_:Q (g i j) H):rI C g x y H Q
inductive rI0 (g:Int→Int→V) (x:V) (y:V) (H:Hp) (Q:VK):Prop
 | mk (i:_) (j:_) (_:x=.int i) (_:y=.int j) (_:Q (g i j) H):rI0 g x y H Q
inductive rU (g:Int→V) (x:V) (H:Hp) (Q:VK):Prop
 | mk (i:_) (_:x=.int i) (_:Q (g i) H):rU g x H Q
section
variable {X:Cx}{a b c:Expr}{ta tb tc:TE}{pos:Pos}
theorem binT (ha:PE X a ta) (hb:PE X b tb) {pins:List (Addr×Obj)}{s:Shared}{σ:St}{H:Hp}{R:V→V→Hp→Prop} (I:Inv X pins σ H s)
  (h:ta σ H fun x H1=>tb σ H1 fun y H2=>R x y H2) {Q:Value→Shared→Prop}{f:Value→Value→Sem Value}
  (hf:∀v u s2 x y H2,Inv X pins σ H2 s2→RelV x v→RelV y u→R x y H2→wpAny (model X.prog X.w) X.A (f v u) Q X.xe s2):
  wpAny (model X.prog X.w) X.A (eval a X.env) (fun v s₁=>wpAny (model X.prog X.w) X.A (eval b X.env) (fun u s₂=>wpAny (model X.prog X.w) X.A (f v u) Q X.xe s₂) X.xe s₁) X.xe s:=by
 refine thn (ha pins s σ H _ I h) fun v s1 ⟨x,H1,I1,r1,q1⟩=>?_
 refine thn (hb pins s1 σ H1 _ I1 q1) fun u s2 ⟨y,H2,I2,r2,q2⟩=>?_
 exact hf v u s2 x y H2 I2 r1 r2 q2
theorem yQ {op:Operator}{r:R2} (ho:OpR X (binaryOp op) r) (ha:PE X a ta) (hb:PE X b tb):PE X (.BinOp a op b pos) (tOp r ta tb):=by
 intro pins s σ H Q I h
 exact wpAny_BinOp (binT ha hb I h fun v u s2 x y H2 I2 rx ry q=>ho pins s2 σ H2 x y v u Q I2 rx ry q)
theorem z5K {op:UnaryOp}{r:V→Hp→VK→Prop} (ho:UnR X (unaryOp op) r) (ha:PE X a ta):PE X (.UnaryOp op a pos) (tUn r ta):=by
 intro pins s σ H Q I h
 exact UnaryOp_ (thn (ha pins s σ H _ I h) fun v s1 ⟨x,H1,I1,r1,q1⟩=>ho pins s1 σ H1 x v Q I1 r1 q1)
theorem opI {f:Value→Value→Sem Value}{C:Int→Int→Prop}{g:Int→Int→Int}
  (rule:∀(i j:Int) (t u:Tok) (s:Shared) (Q:Value→Shared→Prop) (E:Value→Shared→Prop),C i j→Q (.int (g i j) s.toks) { s with toks:=s.toks+1 }→wpAny (model X.prog X.w) X.A (f (.int i t) (.int j u)) Q E s):
  OpR X f (rI C fun i j=>.int (g i j)):=by
 intro pins s σ H x y v u Q I rx ry h
 obtain ⟨i,j,rfl,rfl,hc,q⟩:=h
 obtain ⟨t,rfl⟩:=rx
 obtain ⟨t',rfl⟩:=ry
 exact rule i j t t' s _ _ hc ⟨.int (g i j),H,I.tok _,⟨_,rfl⟩,q⟩
theorem opI0 {f:Value→Value→Sem Value}{g:Int→Int→Int}
  (rule:∀(i j:Int) (t u:Tok) (s:Shared) (Q:Value→Shared→Prop) (E:Value→Shared→Prop),Q (.int (g i j) s.toks) { s with toks:=s.toks+1 }→wpAny (model X.prog X.w) X.A (f (.int i t) (.int j u)) Q E s):
  OpR X f (rI0 fun i j=>.int (g i j)):=by
 intro pins s σ H x y v u Q I rx ry h
 obtain ⟨i,j,rfl,rfl,q⟩:=h
 obtain ⟨t,rfl⟩:=rx
 obtain ⟨t',rfl⟩:=ry
 exact rule i j t t' s _ _ ⟨.int (g i j),H,I.tok _,⟨_,rfl⟩,q⟩
theorem opB0 {f:Value→Value→Sem Value}{g:Int→Int→Bool}
  (rule:∀(i j:Int) (t u:Tok) (s:Shared) (Q:Value→Shared→Prop) (E:Value→Shared→Prop),Q (.bool (g i j)) s→wpAny (model X.prog X.w) X.A (f (.int i t) (.int j u)) Q E s):
  OpR X f (rI0 fun i j=>.bl (g i j)):=by
 intro pins s σ H x y v u Q I rx ry h
 obtain ⟨i,j,rfl,rfl,q⟩:=h
 obtain ⟨t,rfl⟩:=rx
 obtain ⟨t',rfl⟩:=ry
 exact rule i j t t' s _ _ ⟨.bl (g i j),H,I,rfl,q⟩
def CMul (i j:Int):Prop:=(-(2 ^ 64) < i∧i < 2 ^ 64)∨(-(2 ^ 64) < j∧j < 2 ^ 64)
theorem CMul.ok {i j:Int} (h:CMul i j):IntMulOk i j:=by
 rcases h with ⟨h1,h2⟩|⟨h1,h2⟩
 ·exact .of_left (intBits_le_64 h1 h2)
 ·exact .of_right (intBits_le_64 h1 h2)
theorem z0c (k:Nat):(0:Int)≤2 ^ k:=by
 rw [two_pow_cast]
 exact Int.natCast_nonneg _
theorem vR:OpR X (binaryOp .Add) (rI0 fun i j=>.int (i+j)):=opI0 fun _ _ _ _ _ _ _ q=>add_int q
theorem zZL:OpR X (binaryOp .Sub) (rI0 fun i j=>.int (i-j)):=opI0 fun _ _ _ _ _ _ _ q=>sub_int q
theorem zUz:OpR X (binaryOp .Mult) (rI CMul fun i j=>.int (i * j)):=opI fun _ _ _ _ _ _ _ hc q=>mul_int q hc.ok
theorem z4o:OpR X (binaryOp .RShift) (rI (fun _ j=>0≤j) fun i j=>.int (i / 2 ^ j.toNat)):=opI fun i j _ _ _ _ _ hc q=>
 rshift_int hc (by rw [Int.fdiv_eq_ediv_of_nonneg i (z0c _)];exact q)
theorem z40:OpR X (binaryOp .BitAnd) (rI0 fun i j=>.int (Builtin.bitAnd i j)):=opI0 fun _ _ _ _ _ _ _ q=>and_int q
theorem unI {f:Value→Sem Value}{g:Int→Int}
  (rule:∀(i:Int) (t:Tok) (s:Shared) (Q:Value→Shared→Prop) (E:Value→Shared→Prop),Q (.int (g i) s.toks) { s with toks:=s.toks+1 }→wpAny (model X.prog X.w) X.A (f (.int i t)) Q E s):
  UnR X f (rU fun i=>.int (g i)):=by
 intro pins s σ H x v Q I rx h
 obtain ⟨i,rfl,q⟩:=h
 obtain ⟨t,rfl⟩:=rx
 exact rule i t s _ _ ⟨.int (g i),H,I.tok _,⟨_,rfl⟩,q⟩
theorem z4O:UnR X (unaryOp .USub) (rU fun i=>.int (-i)):=unI fun _ _ _ _ _ q=>neg_int q
end
def scal:V→V→Bool
 | .non,.non=>true|.non,.int _=>true|.int _,.non=>true|.non,.bl _=>true|.bl _,.non=>true|.non,.str _=>true|.str _,.non=>true
 | .int _,.int _=>true|.bl _,.bl _=>true|.str _,.str _=>true|.byt _,.byt _=>true
 | .int _,.str _=>true|.str _,.int _=>true|.bl _,.str _=>true|.str _,.bl _=>true
 | _,_=>false
def rEq:R2:=fun x y H Q=>scal x y=true∧Q (.bl (decide (x=y))) H
def rNe:R2:=fun x y H Q=>scal x y=true∧Q (.bl (!decide (x=y))) H
theorem zYj {i j:Int}:decide (V.int i=V.int j)=(i == j):=by
 rw [Bool.eq_iff_iff]
 simp
theorem z28 {i j:Bool}:decide (V.bl i=V.bl j)=(i == j):=by
 rw [Bool.eq_iff_iff]
 simp
theorem z1j {i j:Str}:decide (V.str i=V.str j)=(i == j):=by
 rw [Bool.eq_iff_iff]
 simp
theorem z0J {i j:Array UInt8}:decide (V.byt i=V.byt j)=(i.toList == j.toList):=by
 rw [Bool.eq_iff_iff]
 cases i
 cases j
 simp
section
variable {X:Cx}{a b c:Expr}{ta tb tc:TE}{pos:Pos}
theorem xR {pins:List (Addr×Obj)}{σ:St}{H:Hp}{s:Shared}{Q:VK}{k k':Bool} (I:Inv X pins σ H s) (q:Q (.bl k) H) (e:k=k'):EP X pins σ Q (.bool k') s:=by
 subst e
 exact ⟨.bl k,H,I,rfl,q⟩
theorem u5:OpR X (compareOp .Eq) rEq:=by
 intro pins s σ H x y v u Q I rx ry h
 obtain ⟨hs,q⟩:=h
 cases x with
 | non=>
  cases rx
  cases y with
  | non=>cases ry;exact PySem.EqNone.eq_none_none (xR I q (by simp))
  | bl j=>cases ry;exact PySem.EqNone.eq_none_bool (xR I q (by simp))
  | int j=>obtain ⟨t',rfl⟩:=ry;exact PySem.EqNone.eq_none_int (xR I q (by simp))
  | str j=>obtain ⟨t',rfl⟩:=ry;exact PySem.EqNone.eq_none_str (xR I q (by simp))
  | _=>exact absurd (show false=true from hs) Bool.false_ne_true
 | bl i=>
  cases rx
  cases y with
  | non=>cases ry;exact PySem.EqNone.eq_bool_none (xR I q (by simp))
  | bl j=>cases ry;exact eq_bool (xR I q z28)
  | str j=>obtain ⟨t',rfl⟩:=ry;exact PySem.EqMixed.eq_bool_str (xR I q (by simp))
  | _=>exact absurd (show false=true from hs) Bool.false_ne_true
 | int i=>
  obtain ⟨t,rfl⟩:=rx
  cases y with
  | non=>cases ry;exact PySem.EqNone.eq_int_none (xR I q (by simp))
  | int j=>obtain ⟨t',rfl⟩:=ry;exact eq_int (xR I q zYj)
  | str j=>obtain ⟨t',rfl⟩:=ry;exact PySem.EqMixed.eq_int_str (xR I q (by simp))
  | _=>exact absurd (show false=true from hs) Bool.false_ne_true
 | str i=>
  obtain ⟨t,rfl⟩:=rx
  cases y with
  | non=>cases ry;exact PySem.EqNone.eq_str_none (xR I q (by simp))
  | bl j=>cases ry;exact PySem.EqMixed.eq_str_bool (xR I q (by simp))
  | int j=>obtain ⟨t',rfl⟩:=ry;exact PySem.EqMixed.eq_str_int (xR I q (by simp))
  | str j=>obtain ⟨t',rfl⟩:=ry;exact eq_str (xR I q z1j)
  | _=>exact absurd (show false=true from hs) Bool.false_ne_true
 | byt i=>
  obtain ⟨t,rfl⟩:=rx
  cases y with
  | byt j=>obtain ⟨t',rfl⟩:=ry;exact PySem.W.eq_bytes (xR I q z0J)
  | _=>exact absurd (show false=true from hs) Bool.false_ne_true
 | _=>cases y<;>exact absurd (show false=true from hs) Bool.false_ne_true
theorem zRb:OpR X (compareOp .NotEq) rNe:=by
 intro pins s σ H x y v u Q I rx ry h
 obtain ⟨hs,q⟩:=h
 cases x with
 | non=>
  cases rx
  cases y with
  | non=>cases ry;exact PySem.EqNone.ne_none_none (xR I q (by simp))
  | bl j=>cases ry;exact PySem.EqNone.ne_none_bool (xR I q (by simp))
  | int j=>obtain ⟨t',rfl⟩:=ry;exact PySem.EqNone.ne_none_int (xR I q (by simp))
  | str j=>obtain ⟨t',rfl⟩:=ry;exact PySem.EqNone.ne_none_str (xR I q (by simp))
  | _=>exact absurd (show false=true from hs) Bool.false_ne_true
 | bl i=>
  cases rx
  cases y with
  | non=>cases ry;exact PySem.EqNone.ne_bool_none (xR I q (by simp))
  | bl j=>cases ry;exact ne_bool (xR I q (congrArg not z28))
  | str j=>obtain ⟨t',rfl⟩:=ry;exact PySem.EqMixed.ne_bool_str (xR I q (by simp))
  | _=>exact absurd (show false=true from hs) Bool.false_ne_true
 | int i=>
  obtain ⟨t,rfl⟩:=rx
  cases y with
  | non=>cases ry;exact PySem.EqNone.ne_int_none (xR I q (by simp))
  | int j=>obtain ⟨t',rfl⟩:=ry;exact ne_int (xR I q (congrArg not zYj))
  | str j=>obtain ⟨t',rfl⟩:=ry;exact PySem.EqMixed.ne_int_str (xR I q (by simp))
  | _=>exact absurd (show false=true from hs) Bool.false_ne_true
 | str i=>
  obtain ⟨t,rfl⟩:=rx
  cases y with
  | non=>cases ry;exact PySem.EqNone.ne_str_none (xR I q (by simp))
  | bl j=>cases ry;exact PySem.EqMixed.ne_str_bool (xR I q (by simp))
  | int j=>obtain ⟨t',rfl⟩:=ry;exact PySem.EqMixed.ne_str_int (xR I q (by simp))
  | str j=>obtain ⟨t',rfl⟩:=ry;exact ne_str (xR I q (congrArg not z1j))
  | _=>exact absurd (show false=true from hs) Bool.false_ne_true
 | byt i=>
  obtain ⟨t,rfl⟩:=rx
  cases y with
  | byt j=>obtain ⟨t',rfl⟩:=ry;exact PySem.W.ne_bytes (xR I q (congrArg not z0J))
  | _=>exact absurd (show false=true from hs) Bool.false_ne_true
 | _=>cases y<;>exact absurd (show false=true from hs) Bool.false_ne_true
theorem zRp:OpR X (compareOp .Lt) (rI0 fun i j=>.bl (decide (i < j))):=opB0 fun _ _ _ _ _ _ _ q=>lt_int q
theorem zVA:OpR X (compareOp .LtE) (rI0 fun i j=>.bl (decide (i≤j))):=opB0 fun _ _ _ _ _ _ _ q=>le_int q
theorem zT1:OpR X (compareOp .Gt) (rI0 fun i j=>.bl (decide (j < i))):=opB0 fun _ _ _ _ _ _ _ q=>gt_int q
theorem zRz:OpR X (compareOp .GtE) (rI0 fun i j=>.bl (decide (j≤i))):=opB0 fun _ _ _ _ _ _ _ q=>ge_int q
theorem z4G:OpR X (compareOp .Is) (fun x y H Q=>y=.non∧Q (.bl (decide (x=.non))) H):=by
 intro pins s σ H x y v u Q I rx ry h
 obtain ⟨rfl,q⟩:=h
 cases ry
 refine is_none_gen (xR I q ?_)
 cases x<;>first
  | (cases rx;rfl)
  | (obtain ⟨t,rfl⟩:=rx;rfl)
theorem z9 (b:Expr) {op:CmpOp} (h:op≠.In:=by decide) (h2:op≠.NotIn:=by decide):behindInMarks op b=false:=by
 have e1:(op == CmpOp.In)=false:=by cases op<;>first|rfl|exact absurd rfl h
 have e2:(op == CmpOp.NotIn)=false:=by cases op<;>first|rfl|exact absurd rfl h2
 cases b<;>simp [behindInMarks,e1,e2]
theorem uV {op:CmpOp}{r:R2} (ho:OpR X (compareOp op) r) (ha:PE X a ta) (hb:PE X b tb) (hm:behindInMarks op b=false):PE X (.Compare a [op] [b] pos) (tOp r ta tb):=by
 intro pins s σ H Q I h
 exact wpAny_Compare1 (binT ha hb I h fun v u s2 x y H2 I2 rx ry q=>ho pins s2 σ H2 x y v u Q I2 rx ry q) hm
def z5A (t:TE):TT:=fun σ H Q=>t σ H fun x H'=>BlI x H' Q
theorem z8 {op:CmpOp}{r:R2} (ho:OpR X (compareOp op) r) (ha:PE X a ta) (hb:PE X b tb) (hm:behindInMarks op b=false):PT X (.Compare a [op] [b] pos) (z5A (tOp r ta tb)):=by
 intro pins s σ H Q I h
 refine wpAny_isTrue_Compare1 (thn (ha pins s σ H _ I h) fun v s1 ⟨x,H1,I1,r1,q1⟩=>thn (hb pins s1 σ H1 _ I1 q1) fun u s2 ⟨y,H2,I2,r2,q2⟩=>
  thn (ho pins s2 σ H2 x y v u _ I2 r1 r2 q2) fun c s3 ⟨z,H3,I3,r3,k,e,q3⟩=>?_) hm
 subst e
 cases r3
 exact wpAny_truthy_bool ⟨H3,I3,q3⟩
theorem zQD:(sizeLine:Nat) < 2 ^ 63:=by rw [sizeLine_eq];decide
theorem vals1 {x:V}{us:List Value} (r:Vals [x] us):∃u,us=[u]∧RelV x u:=by
 cases r with
 | cons r1 r2=>cases r2;exact ⟨_,rfl,r1⟩
theorem vals2 {x y:V}{us:List Value} (r:Vals [x,y] us):∃u w',us=[u,w']∧RelV x u∧RelV y w':=by
 cases r with
 | cons r1 r2=>
  cases r2 with
  | cons r3 r4=>cases r4;exact ⟨_,_,rfl,r1,r3⟩
theorem z1p (hc:X.calm=true):k9 X (.builtin "max") (fun xs H Q=>∃i j,xs=[.int i,.int j]∧Q (.int (if j > i then j else i)) H):=by
 intro pins s σ H xs us Q I r h
 obtain ⟨i,j,rfl,q⟩:=h
 obtain ⟨u,w',rfl,⟨t,rfl⟩,⟨t',rfl⟩⟩:=vals2 r
 refine max_two_ints (I.ok.hd hc) fun h' tk k=>⟨_,H,I.kept k,?_,q⟩
 by_cases hj:j > i
 ·rw [if_pos hj,if_pos hj];exact ⟨_,rfl⟩
 ·rw [if_neg hj,if_neg hj];exact ⟨_,rfl⟩
theorem zSS (hc:X.calm=true):k9 X (.builtin "min") (fun xs H Q=>∃i j,xs=[.int i,.int j]∧Q (.int (if j < i then j else i)) H):=by
 intro pins s σ H xs us Q I r h
 obtain ⟨i,j,rfl,q⟩:=h
 obtain ⟨u,w',rfl,⟨t,rfl⟩,⟨t',rfl⟩⟩:=vals2 r
 refine min_two_ints (I.ok.hd hc) fun h' tk k=>⟨_,H,I.kept k,?_,q⟩
 by_cases hj:j < i
 ·rw [if_pos hj,if_pos hj];exact ⟨_,rfl⟩
 ·rw [if_neg hj,if_neg hj];exact ⟨_,rfl⟩
theorem zSl:k9 X (.type "str") (fun xs H Q=>∃i,xs=[.int i]∧i.natAbs.log2 < 1920∧Q (.str (toString i)) H):=by
 intro pins s σ H xs us Q I r h
 obtain ⟨i,rfl,hz,q⟩:=h
 obtain ⟨u,rfl,t,rfl⟩:=vals1 r
 exact PySem.P.str_of_int hz ⟨.str _,H,I.tok _,⟨_,rfl⟩,q⟩
theorem zYy:k9 X (.builtin "ord") (fun xs H Q=>∃x,xs=[.str x]∧x.length=1∧Q (.int (x.cps.getD 0 0:Nat)) H):=by
 intro pins s σ H xs us Q I r h
 obtain ⟨x,rfl,hz,q⟩:=h
 obtain ⟨u,rfl,t,rfl⟩:=vals1 r
 exact ord_of_one hz ⟨.int _,H,I.tok _,⟨_,rfl⟩,q⟩
end
open PySem PySem.Spec PyProof.Rows
structure ObjM (h:Heap) (x dx C:Addr) (mA:Str→Option Value):Prop where
 obj:h.get? x=some (PySem.W.instObj C dx)
 ns:h.Ns1 dx mA
 ne:dx≠x
theorem z1T {h:Heap}{dx:Addr}{mA:Str→Option Value} (n:h.Ns1 dx mA):∃od,h.get? dx=some od∧∀name,PySem.W.lookIn name od=some (mA name):=by
 obtain ⟨o,es,ep,ho,hd,hk,_,hm⟩:=n
 refine ⟨o,ho,fun name=>?_⟩
 have e:=hm name
 unfold nsFind findBy at e
 rw [←Array.find?_toList] at e
 unfold PySem.W.lookIn
 rw [hd]
 dsimp only
 split
 ·rename_i y q
  rw [q] at e
  exact congrArg some e
 ·rename_i q
  rw [q] at e
  have a:es.toList.any (·.refKey)=false:=by
   rw [List.any_eq_false]
   intro y hy
   obtain ⟨z,t,hkey⟩:=hk y (Array.mem_toList_iff.mp hy)
   simp [DictEntry.refKey,hkey]
  have a':¬es.toList.any (·.refKey)=true:=by rw [a];exact Bool.false_ne_true
  rw [if_neg a']
  exact congrArg some e
theorem ObjM.look {h:Heap}{x dx C:Addr}{mA:Str→Option Value} (I:ObjM h x dx C mA):∃od,PySem.W.InstAt h x (PySem.W.instObj C dx) C (some od)∧∀name,PySem.W.lookIn name od=some (mA name):=
 let ⟨od,ho,hl⟩:=z1T I.ns
 ⟨od,⟨I.obj,rfl,rfl,ho⟩,hl⟩
section
variable {prog:Program}{w:World}{A:Around}{E:Value→Shared→Prop}{s:Shared}{K:Fg}{x dx C f:Addr}{mA:Str→Option Value}{name:Str}{v:Value}
theorem get_map {expr:Bool}{Q:Value→Shared→Prop} (X:K.In s.heap) (I:ObjM s.heap x dx C mA) (hg:PySem.W.plainGet K C name=true) (hh:PySem.W.hasDictIn K C=true)
  (ha:PySem.W.findIn K (.ref C) name=some none) (hv:mA name=some v) (hv':PySem.W.handedIn v=true) (h:Q v { s with toks:=s.toks+1 }):
  wpAny (model prog w) A (getAttr (.ref x) name expr) Q E s:=by
 obtain ⟨od,J,hl⟩:=I.look
 exact PySem.W.get_value X J (PySem.W.plainGet_of hg).1 (PySem.W.findObj_own hh ha rfl (by rw [hl,hv])) hv' h
theorem z3G {ns:List Str}{Q:Unit→Shared→Prop} (X:K.In s.heap) (I:ObjM s.heap x dx C mA)
  (hs:PySem.W.findIn K (.ref C) "__setattr__" = some (some (.builtin "object.__setattr__"))) (hp:PySem.W.plainOver K C=true) (ht:PySem.W.takerIn K C name=some none) (hh:PySem.W.hasDictIn K C=true)
  (hw:PySem.Within mA ns) (hsz:ns.length≤sizeLine)
  (h:∀h',ObjM h' x dx C (fun y=>if y=name then some v else mA y)→Heap.SameBut dx s.heap h'→Q () { s with heap:=h',toks:=s.toks+2 }):
  wpAny (model prog w) A (setAttr (.ref x) name v) Q E s:=by
 obtain ⟨od,J,hl⟩:=I.look
 refine PySem.W.set_plain X J hs (PySem.W.osa_open (s:={ s with toks:=s.toks+1 }) (r:=none) X J hp ht fun b=>?_)
 obtain ⟨cd,hc,hd'⟩:=PySem.W.any_some hh
 have hx:s.heap.get? x=some ⟨.ref C,some dx,.plain,#[]⟩:=I.obj
 refine wpAny_bind (wpAny_pure (wpAny_bind (wpAny_bind (wpAny_loadPart hx (wpAny_bind (PySem.W.Looks.here (s:={ s with toks:=s.toks+1 }) (PySem.W.looks_clsIn X hc) ?_))))))
 rw [hd']
 refine wpAny_pure (a:=some dx) (wpAny_bind (wpAny_pure (wpAny_bind ?_)))
 refine wpAny_nsSet1 (s:={ s with toks:=s.toks+1 }) I.ns fun h' hn2 hs2=>?_
 obtain ⟨oD,esD,epD,hoD,hdD,hcD⟩:=hn2.count (PySem.Within.cons name v hw)
 refine wpAny_bind (wpAny_lookBehind hoD (by rw [hdD];exact pastItsLine_dict (Nat.le_trans hcD (by rw [zlc];lia))) ?_)
 exact wpAny_pure (h _ ⟨(hs2.2 _ (Ne.symm I.ne)).trans I.obj,hn2,I.ne⟩ hs2)
theorem z2r {R:Result→Shared→Prop}{vs:List Value}{kw:List (Str×Value)} (X:K.In s.heap) (hm:PySem.W.makesIn K C=true)
  (hi:PySem.W.findIn K (.ref C) "__init__" = some (some (.ref f))) (hf:PySem.W.typeIn K (.ref f)=some (.type "function"))
  (h:codeAny (model prog w) (A.under (.builtin "type.__call__" ⟨.ref C::vs,kw⟩)) (.call (.ref f) ⟨.ref (s.heap.objs.size+1)::vs,kw⟩) (PySem.W.InitBack (s.heap.objs.size+1) R)
   { s with heap:=(s.heap.push PySem.W.emptyDict).push (PySem.W.instObj C s.heap.objs.size) }):
  codeAny (model prog w) A (.call (.ref C) ⟨vs,kw⟩) R s:=by
 obtain ⟨hh,g,d,t,os⟩:=s
 exact PySem.W.make_core (PySem.W.makes_of X hm) (PySem.W.looks_findIn X hi) (fun self=>PySem.W.bind_fn X self hf) (.inl rfl) h
end
def putF (f:Str) (v:V):List (Str×V)→List (Str×V)
 | []=>[(f,v)]
 | (g,x)::r=>if g=f then (g,v)::r else (g,x)::putF f v r
theorem zUJ (f g:Str) (v:V):∀fs:List (Str×V),(putF f v fs).lookup g=if g=f then some v else fs.lookup g
 | []=>by
  show List.lookup g [(f,v)]=_
  by_cases h:g=f
  ·have hb:(g == f)=true:=beq_iff_eq.mpr h
   simp only [List.lookup,hb,if_pos h]
  ·have hb:(g == f)=false:=beq_eq_false_iff_ne.mpr h
   simp only [List.lookup,hb,if_neg h]
 | (k,x)::r=>by
  have ih:=zUJ f g v r
  rw [show putF f v ((k,x)::r)=(if k=f then (k,v)::r else (k,x)::putF f v r) from rfl]
  by_cases hk:k=f
  ·rw [if_pos hk]
   by_cases h:g=k
   ·have hb:(g == k)=true:=beq_iff_eq.mpr h
    simp only [List.lookup,hb,if_pos (h.trans hk)]
   ·have hb:(g == k)=false:=beq_eq_false_iff_ne.mpr h
    simp only [List.lookup,hb,if_neg (fun e:g=f=>h (e.trans hk.symm))]
  ·rw [if_neg hk]
   by_cases h:g=k
   ·have hb:(g == k)=true:=beq_iff_eq.mpr h
    simp only [List.lookup,hb,if_neg (fun e:g=f=>hk (h.symm.trans e))]
   ·have hb:(g == k)=false:=beq_eq_false_iff_ne.mpr h
    simp only [List.lookup,hb]
    exact ih
theorem zUn (f:Str) (v:V):∀fs:List (Str×V),f∈(putF f v fs).map (·.1)∧∀g,g∈fs.map (·.1)→g∈(putF f v fs).map (·.1)
 | []=>⟨by simp [putF],fun g h=>by simp at h⟩
 | (k,x)::r=>by
  obtain ⟨i1,i2⟩:=zUn f v r
  rw [show putF f v ((k,x)::r)=(if k=f then (k,v)::r else (k,x)::putF f v r) from rfl]
  by_cases hk:k=f
  ·rw [if_pos hk]
   subst hk
   exact ⟨by simp,fun g h=>by simpa using h⟩
  ·rw [if_neg hk]
   refine ⟨?_,fun g h=>?_⟩
   ·rw [List.map_cons]
    exact zmc _ i1
   ·rw [List.map_cons] at h ⊢
    rcases List.mem_cons.mp h with e|e
    ·exact List.mem_cons.mpr (.inl e)
    ·exact zmc _ (i2 g e)
theorem zV0 (f:Str) (v:V):∀fs:List (Str×V),(putF f v fs).length≤fs.length+1
 | []=>by simp [putF]
 | (k,x)::r=>by
  have ih:=zV0 f v r
  rw [show putF f v ((k,x)::r)=(if k=f then (k,v)::r else (k,x)::putF f v r) from rfl]
  by_cases hk:k=f
  ·rw [if_pos hk,zlc,zlc];lia
  ·rw [if_neg hk,zlc,zlc];lia
theorem RelO.some_of {v:V}{o:Option Value} (r:RelO (some v) o):∃u,o=some u∧RelV v u:=by
 cases o with
 | none=>exact (show False from r).elim
 | some u=>exact ⟨u,rfl,r⟩
theorem z1e {v:V}{u:Value} (r:RelV v u):PySem.W.handedIn u=true:=by
 cases v with
 | non=>cases (show u=Value.none from r);rfl
 | bl b=>cases (show u=Value.bool b from r);rfl
 | int i=>obtain ⟨t,e⟩:=(show ∃t,u=Value.int i t from r);cases e;rfl
 | str x=>obtain ⟨t,e⟩:=(show ∃t,u=Value.str x t from r);cases e;rfl
 | byt b=>obtain ⟨t,e⟩:=(show ∃t,u=Value.bytes b t from r);cases e;rfl
 | flt b=>obtain ⟨t,e⟩:=(show ∃t,u=Value.float b t from r);cases e;rfl
 | ref a=>cases (show u=Value.ref a from r);rfl
 | ty n=>cases (show u=Value.type n from r);rfl
section
variable {P:Program}{w:World}{H H':Hp}{h h':Heap}{a C dx:Addr}{fs fs':List (Str×V)}
theorem zUo (hok:HOk P w H h) (e:H a=some (.ins C dx fs)):∃mA,ObjM h a dx C mA∧(∀f,RelO (fs.lookup f) (mA f))∧PySem.Within mA (fs.map (·.1))∧fs.length≤1000∧H dx=some (.own a):=by
 obtain ⟨d,z,ne,ob,mA,n,r,q⟩:=(show zZr P w H h a (.ins C dx fs) from hok a _ e)
 exact ⟨mA,⟨ob,n,ne⟩,r,q,z,d⟩
end
structure Cls (K:Fg) (C:Addr):Prop where
 pg:PySem.W.plainGet K C Str.empty=true
 hd:PySem.W.hasDictIn K C=true
 po:PySem.W.plainOver K C=true
 sa:PySem.W.findIn K (.ref C) "__setattr__" = some (some (.builtin "object.__setattr__"))
theorem Cls.get {K:Fg}{C:Addr} (c:Cls K C) (f:Str):PySem.W.plainGet K C f=true:=c.pg
def zW3 (K:Fg) (C:Addr) (f:Str):Prop:=PySem.W.findIn K (.ref C) f=some none
theorem zW3.taker {K:Fg}{C:Addr}{f:Str} (n:zW3 K C f):PySem.W.takerIn K C f=some none:=by
 unfold PySem.W.takerIn
 rw [show PySem.W.findIn K (.ref C) f=some none from n]
 rfl
section
variable {X:Cx}{pins:List (Addr×Obj)}{σ:St}{H:Hp}{s:Shared}{a C dx:Addr}{fs:List (Str×V)}{f:Str}{v:V}{A:Around}{E:Value→Shared→Prop}
theorem zQV {b:Bool}{Q:Value→Shared→Prop} (I:Inv X pins σ H s) (e:H a=some (.ins C dx fs)) (c:Cls X.K C) (n:zW3 X.K C f) (l:fs.lookup f=some v)
  (h:∀u s',Inv X pins σ H s'→RelV v u→Q u s'):wpAny (model X.prog X.w) A (getAttr (.ref a) f b) Q E s:=by
 obtain ⟨mA,O,r,_,_,_⟩:=zUo I.hok e
 obtain ⟨u,hu,ru⟩:=RelO.some_of (v:=v) (o:=mA f) (by rw [←l];exact r f)
 exact get_map I.kIn O (c.get f) c.hd n hu (z1e ru) (h u _ (I.tok _) ru)
theorem zQZ {y:V}{u:Value}{Q:Unit→Shared→Prop} (I:Inv X pins σ H s) (e:H a=some (.ins C dx fs)) (c:Cls X.K C) (n:zW3 X.K C f) (hl:fs.length < 1000) (ry:RelV y u)
  (h:∀s',Inv X pins σ (upd H a (.ins C dx (putF f y fs))) s'→Q () s'):wpAny (model X.prog X.w) A (setAttr (.ref a) f u) Q E s:=by
 obtain ⟨mA,O,r,wi,_,ho⟩:=zUo I.hok e
 have hz:(fs.map (·.1)).length≤sizeLine:=by rw [zlm,sizeLine_eq];lia
 refine z3G I.kIn O c.sa c.po n.taker c.hd wi hz fun h' O' sb=>h _ ?_
 have hd:∃o,h'.get? dx=some o:=let ⟨o,_,_,e',_⟩:=O'.ns;⟨o,e'⟩
 refine I.write (x:=a) (e:=dx) (by rw [e];exact True.intro) (.inr ho) (fun b q hb z=>(sb.2 b hb).trans z) hd ?_
 refine ⟨by rw [zP O.ne];exact ho,?_,O.ne,O'.obj,_,O'.ns,fun g=>?_,fun g hg=>?_⟩
 ·have:=zV0 f y fs;lia
 ·show RelO ((putF f y fs).lookup g) (if g=f then some u else mA g)
  rw [zUJ]
  by_cases q:g=f
  ·rw [if_pos q,if_pos q];exact ry
  ·rw [if_neg q,if_neg q];exact r g
 ·by_cases q:g=f
  ·rw [q];exact (zUn f y fs).1
  ·refine (zUn f y fs).2 g (wi g fun z=>hg ?_)
   show (if g=f then some u else mA g)=none
   rw [if_neg q];exact z
theorem Inv.made (I:Inv X pins σ H s):Inv X pins σ (upd (upd H s.heap.objs.size (.own (s.heap.objs.size+1))) (s.heap.objs.size+1) (.ins C s.heap.objs.size []))
  { s with heap:=(s.heap.push PySem.W.emptyDict).push (PySem.W.instObj C s.heap.objs.size) }:=by
 have e1:(s.heap.push PySem.W.emptyDict).get? s.heap.objs.size=some PySem.W.emptyDict:=Heap.get?_push_size s.heap rfl
 have e2:((s.heap.push PySem.W.emptyDict).push (PySem.W.instObj C s.heap.objs.size)).get? (s.heap.objs.size+1)=some (PySem.W.instObj C s.heap.objs.size):=by
  have:=Heap.get?_push_size (s.heap.push PySem.W.emptyDict) (o:=PySem.W.instObj C s.heap.objs.size) rfl
  rwa [Heap.size_push] at this
 have e3:(s.heap.push PySem.W.emptyDict).Ns s.heap.objs.size (fun _=>none):=⟨PySem.W.emptyDict,#[],_,e1,rfl,(fun e he=>absurd he (by simp)),fun _=>rfl⟩
 have I1:=I.laid (a:=s.heap.objs.size) (o:=.own (s.heap.objs.size+1)) (h':=s.heap.push PySem.W.emptyDict) (t':=s.toks) (fun b u q=>Heap.get?_push_of_some _ q) (Nat.le_refl _) ⟨_,e1⟩
 refine I1.laid (a:=s.heap.objs.size+1) (o:=.ins C s.heap.objs.size []) (t':=s.toks) (fun b u q=>Heap.get?_push_of_some _ q) (Nat.le_of_eq (Heap.size_push _ _)) ?_
 have ne:s.heap.objs.size≠s.heap.objs.size+1:=Nat.ne_of_lt (Nat.lt_succ_self _)
 refine ⟨by rw [zP ne,zX],Nat.zero_le _,ne,e2,fun _=>none,(Heap.Ns1.of_empty e3).at fun o q=>Heap.get?_push_of_some _ q,fun _=>True.intro,fun y hy=>absurd rfl hy⟩
theorem z3y {prog:Program}{w:World}{env:Env}{e:Expr}{f:Str}{pos:Pos}{s:Shared}{Q:Value→Shared→Prop} (hb:attributeBase e f env (eval e env)=eval e env)
  (h:wpAny (model prog w) A (eval e env) (fun o s₁=>wpAny (model prog w) A (getAttr o f true) Q E s₁) E s):wpAny (model prog w) A (eval (.Attribute e f pos) env) Q E s:=
 Attribute_any_ h (by rw [arm_eval_Attribute,hb])
end
inductive FldI (K:Fg) (f:Str) (x:V) (H1:Hp) (Q:VK):Prop
 | mk (a:_) (C:_) (dx:_) (fs:_) (v:_) (_:x=.ref a) (_:H1 a=some (.ins C dx fs)) (_:Cls K C) (_:zW3 K C f) (_:fs.lookup f=some v) (_:Q v H1):FldI K f x H1 Q
def tFld (K:Fg) (ta:TE) (f:Str):TE:=fun σ H Q=>ta σ H fun x H1=>FldI K f x H1 Q
def sFld (K:Fg) (ta tv:TE) (f:Str):TS:=fun D σ H=>tv σ H fun y H1=>ta σ H1 fun x H2=>∃a C dx fs,x=.ref a∧H2 a=some (.ins C dx fs)∧Cls K C∧zW3 K C f∧fs.length < 1000∧
 D.nx σ (upd H2 a (.ins C dx (putF f y fs)))
section
variable {X:Cx}{o e value:Expr}{f:Str}{pos pos' tpos:Pos}{ta tv:TE}
theorem zQf (he:PE X e ta) (hb:attributeBase e f X.env (eval e X.env)=eval e X.env):PE X (.Attribute e f pos) (tFld X.K ta f):=by
 intro pins s σ H Q I h
 refine z3y hb (thn (he pins s σ H _ I h) fun u s1 ⟨x,H1,I1,rx,a,C,dx,fs,v,ex,ea,c,n,l,q⟩=>?_)
 subst ex
 obtain rfl:u=Value.ref a:=rx
 exact zQV I1 ea c n l fun u' s2 I2 ru=>⟨v,H1,I2,ru,q⟩
theorem zZ0 (ha:PE X o ta) (hv:PE X value tv) (hs:swapsWith value (some (.Attribute o f pos')) pos.line X.env=pure false):PS X (.Assign [.Attribute o f pos'] value pos) (sFld X.K ta tv f):=by
 intro pins s σ H D I h
 refine plainObj_wpAny_Assign_Attribute (thn (hv pins s σ H _ I h) fun u s1 ⟨y,H1,I1,ry,q⟩=>thn (ha pins s1 σ H1 _ I1 q) fun ov s2 ⟨x,H2,I2,rx,a,C,dx,fs,ex,ea,c,n,l,q2⟩=>?_) hs
 subst ex
 obtain rfl:ov=Value.ref a:=rx
 exact zQZ I2 ea c n l ry fun s3 I3=>⟨σ,_,I3,q2⟩
end
section
variable {X:Cx}{pins:List (Addr×Obj)}{σ:St}{H:Hp}{s:Shared}{A:Around}{E:Value→Shared→Prop}{Q:Value→Shared→Prop}{c:Value}{b:Bool}
end
open PySem PySem.Spec PyProof.Rows
structure Room (k:Nat) (A:Around):Prop where
 hd:A.handled=none
 dp:A.depth+3 * k+5 < recursionLimit
 un:A.units+16 * k+200 < cLine
theorem Room.mono {j k:Nat}{A:Around} (r:Room k A) (h:j≤k):Room j A:=⟨r.hd,by have:=r.dp;lia,by have:=r.un;lia⟩
theorem Room.deeper {k:Nat}{A:Around} (r:Room (k+1) A) (env:Env):Room k (A.deeper env):=
 ⟨r.hd,by have:=r.dp;show A.depth+1+3 * k+5 < _;lia,by have:=r.un;show A.units+3+16 * k+200 < _;lia⟩
theorem Room.in1 {k:Nat}{A:Around} (r:Room (k+1) A):Room k A.in1:=
 ⟨r.hd,by have:=r.dp;show A.depth+3 * k+5 < _;lia,by have:=r.un;show A.units+1+16 * k+200 < _;lia⟩
theorem z0b {A:Around}{C:Addr}{us:List Value}{kw:List (Str×Value)}:(A.under (.builtin "type.__call__" ⟨.ref C::us,kw⟩)).depth=A.depth+1:=by
 first|rfl|simp [Around.under,Code.weight,Code.isCreation,Code.isGuard,Code.isCaller,Code.frames,Code.isFrame,guardIds]
theorem zQ7 {A:Around}{C:Addr}{us:List Value}{kw:List (Str×Value)}:(A.under (.builtin "type.__call__" ⟨.ref C::us,kw⟩)).units=A.units+1:=by
 first|rfl|simp [Around.under,Code.cUnits,Code.frames,Code.isFrame]
theorem Room.make {k:Nat}{A:Around} (r:Room (k+1) A) (C:Addr) (us:List Value) (kw:List (Str×Value)):Room k (A.under (.builtin "type.__call__" ⟨.ref C::us,kw⟩)):=
 ⟨r.hd,by have:=r.dp;rw [z0b];lia,by have:=r.un;rw [zQ7];lia⟩
theorem Room.depth {k:Nat}{A:Around} (r:Room k A):A.depth < recursionLimit:=by have:=r.dp;lia
theorem Room.units {k:Nat}{A:Around} (r:Room k A):A.units+64 < cLine:=by have:=r.un;lia
def tNil:TA:=fun _ H Q=>Q [] H
def z4a (ta:TE) (tr:TA):TA:=fun σ H Q=>ta σ H fun x H1=>tr σ H1 fun xs H2=>Q (x::xs) H2
section
variable {X:Cx}{e:Expr}{es:List Expr}{te:TE}{t:TA}{pos:Pos}
theorem zY:PA X [] tNil:=fun _ _ _ _ H Q I h=>Calls.spliced_nil ⟨[],H,I,.nil,h⟩
theorem zZ (ha:PE X e te) (hr:PA X es t) (hs:starEach (e::es) X.env=(false,eval e X.env)::starEach es X.env:=by rfl):PA X (e::es) (z4a te t):=by
 intro pos pins s σ H Q I h
 rw [hs]
 show wpAny _ _ (spliced ((false,eval e X.env)::backTo pos (starEach es X.env))) _ _ s
 refine Calls.spliced_cons (thn (ha pins s σ H _ I h) fun u s1 ⟨x,H1,I1,r1,q1⟩=>?_)
 exact thn (hr pos pins s1 σ H1 _ I1 q1) fun us s2 ⟨xs,H2,I2,r2,q2⟩=>⟨x::xs,H2,I2,.cons r1 r2,q2⟩
def tTup (t:TA):TE:=fun σ H Q=>t σ H fun xs H1=>xs.length≤sizeLine∧∀p,H1 p=none→Q (.ref p) (upd H1 p (.tup xs))
def tLst (t:TA):TE:=fun σ H Q=>t σ H fun xs H1=>xs.length≤sizeLine∧∀p,H1 p=none→Q (.ref p) (upd H1 p (.lst xs))
theorem zR4 {x1} (h:PA X es t):PE X (.Tuple es x1 pos) (tTup t):=by
 intro pins s σ H Q I hq
 refine wpAny_Tuple_spliced (thn (h pos pins s σ H _ I hq) fun us s1 ⟨xs,H1,I1,r,z,q⟩=>⟨by rw [←r.length];exact z,?_⟩)
 have hf:H1 s1.heap.objs.size=none:=I1.hok.fresh (Nat.le_refl _)
 refine ⟨.ref s1.heap.objs.size,upd H1 s1.heap.objs.size (.tup xs),I1.laid (t':=s1.toks) (fun b u e=>Heap.get?_push_of_some _ e) (Nat.le_refl _) ?_,rfl,q _ hf⟩
 exact ⟨z,us,r,⟨_,Heap.get?_push_size _ rfl,rfl,_,rfl⟩⟩
theorem yX (h:PA X es t):PE X (.List es pos) (tLst t):=by
 intro pins s σ H Q I hq
 refine wpAny_List_spliced (thn (h pos pins s σ H _ I hq) fun us s1 ⟨xs,H1,I1,r,z,q⟩=>⟨by rw [←r.length];exact z,?_⟩)
 have hf:H1 s1.heap.objs.size=none:=I1.hok.fresh (Nat.le_refl _)
 refine ⟨.ref s1.heap.objs.size,upd H1 s1.heap.objs.size (.lst xs),I1.laid (t':=s1.toks) (fun b u e=>Heap.get?_push_of_some _ e) (Nat.le_refl _) ?_,rfl,q _ hf⟩
 exact ⟨z,us,0,r,Heap.get?_push_size _ rfl⟩
end
abbrev Sp:=List V→Hp→VK→XK→Prop
abbrev CXT:=List Env→Hp→Shared→XK→Value→Shared→Prop
structure Env0 (P:Program) (w:World) (K:Fg) (mg:Str→Option Value) (base:Heap) (A:Around) (outer:List Env) (s:Shared) (H:Hp):Prop where
 frames:A.frames=some outer
 mod:Mod K mg base
 bs:∀b o,base.get? b=some o→s.heap.get? b=some o∧H b=none
 bsz:base.objs.size≤s.heap.objs.size
 funs:s.heap.FunFrames base outer
 frf:∀b∈frs outer,H b=none
 hok:HOk P w H s.heap
 bare:AllBare s.gens
def CE (outer:List Env) (P:Program) (w:World) (H:Hp) (s:Shared) (Q:VK) (u:Value) (s':Shared):Prop:=
 ∃v H',s'.os=s.os∧AllBare s'.gens∧Un (frs outer) [] H H' s.heap s'.heap∧HOk P w H' s'.heap∧RelV v u∧Q v H'
def CR (CX:CXT) (outer:List Env) (P:Program) (w:World) (H:Hp) (s:Shared) (Q:VK) (E:XK) (r:Result) (s':Shared):Prop:=
 match r with
 | .ok (.ret u)=>CE outer P w H s Q u s'
 | .ok _=>False
 | .error e=>CX outer H s E e s'
structure FnOk (P:Program) (w:World) (K:Fg) (mg:Str→Option Value) (base:Heap) (CX:CXT) (k:Nat) (f:Addr) (fd:FuncData) (ps:List Str) (sp:Sp):Prop where
 len:∀vs H Q E,sp vs H Q E→vs.length=ps.length
 run:∀(A:Around) (outer:List Env) (s:Shared) (H:Hp) (args:Args) (us:List Value) (vs:List V) (Q:VK) (E:XK),Room k A→Env0 P w K mg base A outer s H→BindsTo s fd args (ps.zip us)→Vals vs us→sp vs H Q E→
  codeAny (model P w) A (.call (.ref f) args) (CR CX outer P w H s Q E) s
theorem Env0.make {P:Program}{w:World}{K:Fg}{mg:Str→Option Value}{base:Heap}{A:Around}{outer:List Env}{s:Shared}{H:Hp} (e:Env0 P w K mg base A outer s H) (C:Addr) (us:List Value) (kw:List (Str×Value)):
  Env0 P w K mg base (A.under (.builtin "type.__call__" ⟨.ref C::us,kw⟩)) outer s H:=⟨by first|exact e.frames|(simpa [Around.under,Code.envs,Code.isFrame,pushEnvs] using e.frames),e.mod,e.bs,e.bsz,e.funs,e.frf,e.hok,e.bare⟩
theorem Env0.in1 {P:Program}{w:World}{K:Fg}{mg:Str→Option Value}{base:Heap}{A:Around}{outer:List Env}{s:Shared}{H:Hp} (e:Env0 P w K mg base A outer s H):
  Env0 P w K mg base A.in1 outer s H:=⟨e.frames,e.mod,e.bs,e.bsz,e.funs,e.frf,e.hok,e.bare⟩
section
variable {X:Cx}{pins:List (Addr×Obj)}{σ:St}{H:Hp}{s s':Shared}
theorem Inv.env0 (I:Inv X pins σ H s):Env0 X.prog X.w X.K X.mg X.base X.A X.stack s H:=
 ⟨I.ok.frames,I.ok.mod,I.bs,Nat.le_trans I.ok.bsz I.sz,I.stack,I.stkFree,I.hok,I.bare⟩
theorem Inv.after {Q:VK}{u:Value} (I:Inv X pins σ H s) (h:CE X.stack X.prog X.w H s Q u s'):EP X pins σ Q u s':=by
 obtain ⟨v,H',os,bare,un,hok,r,q⟩:=h
 obtain ⟨hh,g,d,t,os'⟩:=s'
 obtain rfl:os'=s.os:=os
 exact ⟨v,H',I.call (h':=hh) (g':=g) (d':=d) (t':=t) (ch:=[]) un hok bare (fun b z=>absurd z (by simp)),r,q⟩
end
def z4x (sp:Sp) (dvs:List V) (E:XK) (t:TA):TE:=fun σ H Q=>t σ H fun vs H1=>sp (vs++dvs) H1 Q E
def z2F (C:Addr) (sp:Sp) (dvs:List V) (E:XK) (t:TA):TE:=fun σ H Q=>t σ H fun vs H1=>∀x dx,H1 x=none→H1 dx=none→dx≠x→
 sp (.ref x::(vs++dvs)) (upd (upd H1 dx (.own x)) x (.ins C dx [])) (fun v H2=>v=.non∧Q (.ref x) H2) E
def Binds (K:Fg) (fd:FuncData) (ps:List Str) (ds:List Value):Prop:=
 ∀(s:Shared) (us:List Value),K.In s.heap→(us++ds).length=ps.length→BindsTo s fd ⟨us,[]⟩ (ps.zip (us++ds))
theorem Binds.all {K:Fg}{fd:FuncData}{ps:List Str} (h:∀us:List Value,us.length=ps.length→bindArgs fd ⟨us,[]⟩=pure (ps.zip us)):Binds K fd ps []:=fun s us _ hl=>by
 rw [List.append_nil] at hl ⊢
 exact .of_eq (h us hl)
def zTn (CX:CXT) (X:Cx) (E:XK):Prop:=∀(pins:List (Addr×Obj)) (σ:St) (H:Hp) (s:Shared) (e:Value) (s':Shared),Inv X pins σ H s→CX X.stack H s E e s'→X.xe e s'
section
variable {X:Cx}{CX:CXT}{k:Nat}{f C:Addr}{fd:FuncData}{ps:List Str}{sp:Sp}{dvs:List V}{ds:List Value}{E:XK}{x m:Str}{p pos apos:Pos}{e o:Expr}{es:List Expr}{ta:TE}{t:TA}
theorem z4q {pins:List (Addr×Obj)}{σ:St}{H:Hp}{s:Shared}{Q:VK}{us:List Value}{vs:List V} (F:FnOk X.prog X.w X.K X.mg X.base CX k f fd ps sp) (hr:Room k X.A) (hb:Binds X.K fd ps ds) (hd:Vals dvs ds) (hx:zTn CX X E)
  (I:Inv X pins σ H s) (r:Vals vs us) (h:sp (vs++dvs) H Q E):wpAny (model X.prog X.w) X.A (call (.ref f) us) (EP X pins σ Q) X.xe s:=by
 have r2:Vals (vs++dvs) (us++ds):=r.append hd
 have hl:(us++ds).length=ps.length:=by rw [←r2.length];exact F.len _ _ _ _ h
 refine wpAny_call (codeAny_mono (F.run X.A X.stack s H ⟨us,[]⟩ (us++ds) (vs++dvs) Q E hr I.env0 (hb s us I.kIn hl) r2 h) fun r s' hq=>?_)
 cases r with
 | error e=>exact hx pins σ H s e s' I hq
 | ok fl=>
  cases fl with
  | ret u=>exact I.after hq
  | next=>exact False.elim hq
  | brk=>exact False.elim hq
  | cont=>exact False.elim hq
theorem z3D (F:FnOk X.prog X.w X.K X.mg X.base CX k f fd ps sp) (hr:Room k X.A) (hg:Gl X x) (hm:X.mg x=some (.ref f)) (hk:PySem.W.keepIn X.K (.ref f)=true) (hb:Binds X.K fd ps ds) (hd:Vals dvs ds) (hx:zTn CX X E)
  (ha:PA X (e::es) t) (hdb:(x == ("__debug__" : Str))=false:=by decide) (he:starEach (e::es) X.env=(false,eval e X.env)::starEach es X.env:=by rfl) (hpl:(backTo pos (starEach es X.env)).any (·.1)=false:=by rfl):
  PE X (.Call (.Name x p) (e::es) [] pos) (z4x sp dvs E t):=by
 intro pins s σ H Q I h
 refine wpAny_Call_Name_kw (zUT I hg hm ?_ hdb)
 refine PySem.W.callWith_K (h₀:=X.base) I.ok.mod.kin hk (thn (ha pos pins s σ H _ I h) fun us s1 ⟨vs,H1,I1,r,q⟩=>⟨I1.kIn,?_⟩) he hpl
 exact z4q F hr hb hd hx I1 r q
structure Mk (K:Fg) (C f:Addr):Prop where
 makes:PySem.W.makesIn K C=true
 init:PySem.W.findIn K (.ref C) "__init__" = some (some (.ref f))
 fn:PySem.W.isFn K (.ref f)=true
 kp:PySem.W.keepIn K (.ref C)=true
theorem zQp {pins:List (Addr×Obj)}{σ:St}{H:Hp}{s:Shared}{Q:VK}{us:List Value}{vs:List V} (M:Mk X.K C f) (F:FnOk X.prog X.w X.K X.mg X.base CX k f fd ps sp) (hr:Room (k+1) X.A) (hb:Binds X.K fd ps ds) (hd:Vals dvs ds)
  (hx:zTn CX X E) (I:Inv X pins σ H s) (r:Vals vs us)
  (h:∀x dx,H x=none→H dx=none→dx≠x→sp (.ref x::(vs++dvs)) (upd (upd H dx (.own x)) x (.ins C dx [])) (fun v H2=>v=.non∧Q (.ref x) H2) E):
  wpAny (model X.prog X.w) X.A (call (.ref C) us) (EP X pins σ Q) X.xe s:=by
 have hq:=h (s.heap.objs.size+1) s.heap.objs.size (I.hok.fresh (Nat.le_succ _)) (I.hok.fresh (Nat.le_refl _)) (Nat.ne_of_lt (Nat.lt_succ_self _))
 have I2:=Inv.made (C:=C) I
 have r2:Vals (V.ref (s.heap.objs.size+1)::(vs++dvs)) (Value.ref (s.heap.objs.size+1)::(us++ds)):=.cons rfl (r.append hd)
 have hl:(Value.ref (s.heap.objs.size+1)::us++ds).length=ps.length:=by
  have e:=r2.length
  rw [F.len _ _ _ _ hq] at e
  exact e.symm
 refine wpAny_call (z2r (f:=f) I.kIn M.makes M.init (beq_iff_eq.mp M.fn) (codeAny_mono (F.run _ X.stack _ _ ⟨Value.ref (s.heap.objs.size+1)::us,[]⟩ (Value.ref (s.heap.objs.size+1)::(us++ds)) _ _ E (hr.make C us [])
  (I2.env0.make C us []) (hb _ (Value.ref (s.heap.objs.size+1)::us) I2.kIn hl) r2 hq) fun r s' hq'=>?_))
 cases r with
 | error e=>exact hx pins σ _ _ e s' I2 hq'
 | ok fl=>
  cases fl with
  | ret u=>
   obtain ⟨v,H',I3,rv,ev,q3⟩:=I2.after hq'
   subst ev
   exact ⟨rv,⟨V.ref (s.heap.objs.size+1),H',I3,rfl,q3⟩⟩
  | next=>exact False.elim hq'
  | brk=>exact False.elim hq'
  | cont=>exact False.elim hq'
theorem z3X (M:Mk X.K C f) (F:FnOk X.prog X.w X.K X.mg X.base CX k f fd ps sp) (hr:Room (k+1) X.A) (hg:Gl X x) (hm:X.mg x=some (.ref C)) (hb:Binds X.K fd ps ds) (hd:Vals dvs ds) (hx:zTn CX X E)
  (ha:PA X (e::es) t) (hdb:(x == ("__debug__" : Str))=false:=by decide) (he:starEach (e::es) X.env=(false,eval e X.env)::starEach es X.env:=by rfl) (hpl:(backTo pos (starEach es X.env)).any (·.1)=false:=by rfl):
  PE X (.Call (.Name x p) (e::es) [] pos) (z2F C sp dvs E t):=by
 intro pins s σ H Q I h
 refine wpAny_Call_Name_kw (zUT I hg hm ?_ hdb)
 refine PySem.W.callWith_K (h₀:=X.base) I.ok.mod.kin M.kp (thn (ha pos pins s σ H _ I h) fun us s1 ⟨vs,H1,I1,r,q⟩=>⟨I1.kIn,?_⟩) he hpl
 exact zQp M F hr hb hd hx I1 r q
theorem z2c (M:Mk X.K C f) (F:FnOk X.prog X.w X.K X.mg X.base CX k f fd ps sp) (hr:Room (k+1) X.A) (hg:Gl X x) (hm:X.mg x=some (.ref C)) (hb:Binds X.K fd ps ds) (hd:Vals dvs ds) (hx:zTn CX X E)
  (hdb:(x == ("__debug__" : Str))=false:=by decide):PE X (.Call (.Name x p) [] [] pos) (z2F C sp dvs E tNil):=by
 intro pins s σ H Q I h
 refine wpAny_Call_Name_kw (zUT I hg hm ?_ hdb)
 exact PySem.W.callWith_K0 I.kIn M.kp (zQp (us:=[]) M F hr hb hd hx I .nil h)
end
section
variable {X:Cx}{CX:CXT}{k:Nat}{f C:Addr}{fd:FuncData}{ps ks:List Str}{sp:Sp}{E:XK}{x m:Str}{p pos apos kpos:Pos}{e o:Expr}{es:List Expr}{kws:List Keyword}{te ta:TE}{t tk:TA}{nm:Option Str}
variable {g:List Value→List Value→List Value}{gV:List V→List V→List V}
end
structure zO (N P:List Str) (sc:Scope):Prop where
 kind:sc.kind=.function
 co:sc.isCoroutine=false
 gen:sc.isGenerator=false
 nd:N.Nodup
 pre:N.take P.length=P
 par:∀x∈P,sc.names.lookup x=some .local∨sc.names.lookup x=some .cell
 nofree:∀y∈sc.names,y.2≠.free
theorem zSU {kindOf:Str→Option NameKind}{x:Str}:∀{binds:List (Str×Value)}{m:Str→Option Value},(∀v,(x,v)∉binds)→bindL kindOf binds m x=m x
 | [],_,_=>rfl
 | (n,v)::r,m,h=>by
  unfold bindL
  rw [zSU fun w hw=>h w (zmc _ hw)]
  split
  ·have:x≠n:=by rintro rfl;exact h v List.mem_cons_self
   simp [this]
  ·rfl
theorem zSL {kindOf:Str→Option NameKind}{x:Str}:∀{binds:List (Str×Value)}{m:Str→Option Value},(∀v,(x,v)∉binds)→bindC kindOf binds m x=m x
 | [],_,_=>rfl
 | (n,v)::r,m,h=>by
  unfold bindC
  rw [zSL fun w hw=>h w (zmc _ hw)]
  split
  ·rfl
  ·have:x≠n:=by rintro rfl;exact h v List.mem_cons_self
   simp [this]
theorem zSM {kindOf:Str→Option NameKind}{x:Str}{v:Value}:∀{P:List Str}{vs:List Value}{i:Nat}{m:Str→Option Value},P.Nodup→P[i]?=some x→vs[i]?=some v→kindOf x=some .local→
  bindL kindOf (P.zip vs) m x=some v
 | [],_,_,_,_,h,_,_=>by simp at h
 | _::_,[],_,_,_,_,h,_=>by simp at h
 | p::P,w::vs,0,m,nd,h1,h2,hk=>by
  simp at h1 h2;subst h1;subst h2
  show bindL kindOf ((p,w)::P.zip vs) m p=_
  unfold bindL
  rw [zSU fun v hv=>(List.nodup_cons.mp nd).1 (List.of_mem_zip hv).1,if_pos hk]
  simp
 | p::P,w::vs,i+1,m,nd,h1,h2,hk=>by
  show bindL kindOf ((p,w)::P.zip vs) m x=_
  unfold bindL
  exact zSM (i:=i) (List.nodup_cons.mp nd).2 (by simpa using h1) (by simpa using h2) hk
theorem zSs {kindOf:Str→Option NameKind}{x:Str}{v:Value}:∀{P:List Str}{vs:List Value}{i:Nat}{m:Str→Option Value},P.Nodup→P[i]?=some x→vs[i]?=some v→kindOf x≠some .local→
  bindC kindOf (P.zip vs) m x=some v
 | [],_,_,_,_,h,_,_=>by simp at h
 | _::_,[],_,_,_,_,h,_=>by simp at h
 | p::P,w::vs,0,m,nd,h1,h2,hk=>by
  simp at h1 h2;subst h1;subst h2
  show bindC kindOf ((p,w)::P.zip vs) m p=_
  unfold bindC
  rw [zSL fun v hv=>(List.nodup_cons.mp nd).1 (List.of_mem_zip hv).1,if_neg hk]
  simp
 | p::P,w::vs,i+1,m,nd,h1,h2,hk=>by
  show bindC kindOf ((p,w)::P.zip vs) m x=_
  unfold bindC
  exact zSs (i:=i) (List.nodup_cons.mp nd).2 (by simpa using h1) (by simpa using h2) hk
def start (N:List Str) (vs:List V):St:=vs.map some++List.replicate (N.length-vs.length) none
def cxOf (CX:CXT) (P:Program) (w:World) (K:Fg) (mg:Str→Option Value) (base:Heap) (N:List Str) (qual:Str) (scope:Scope) (f:Addr) (cd:Value) (A:Around) (outer:List Env) (s:Shared) (H:Hp) (E:XK):Cx where
 prog:=P
 w:=w
 K:=K
 mg:=mg
 base:=base
 A:=A.deeper (envOfC qual scope s.heap.objs.size f cd)
 N:=N
 s_0:=s
 H_0:=H
 env:=envOfC qual scope s.heap.objs.size f cd
 outer:=outer
 stack:=envOfC qual scope s.heap.objs.size f cd::outer
 ex:=[]
 calm:=true
 fn:=fun _=>true
 pn:=[]
 xe:=fun e s'=>wpAny (model P w) (A.deeper (envOfC qual scope s.heap.objs.size f cd)) (leaving (envOfC qual scope s.heap.objs.size f cd) e) (fun _ s''=>CX outer H s E e s'') (fun e' s''=>CX outer H s E e' s'') s'
theorem zR5 {sc:Scope}{n:Nat}{x:Str} (h:sc.names.lookup x=some .cell):∃c,(cellsFrom n sc.names []).lookup x=some c:=by
 have q:=PySem.W.cellsFrom_some sc.names n [] (.inl h)
 exact Option.isSome_iff_exists.mp q
theorem z0Q {CX:CXT}{P:Program}{w:World}{K:Fg}{mg:Str→Option Value}{base:Heap}{N ps:List Str}{qual:Str}{scope:Scope}{f:Addr}{cd:Value}{A:Around}{outer:List Env}{s s1:Shared}{H:Hp}{E:XK}{us:List Value}{vs:List V}
  (S:zO N ps scope) (hd:A.handled=none) (e0:Env0 P w K mg base A outer s H) (hl:vs.length=ps.length) (r:Vals vs us)
  (x:InCallC s s.heap.objs.size (bindL (envOfC qual scope s.heap.objs.size f cd).kindOf (ps.zip us) fun _=>none) (cellsFrom (s.heap.objs.size+1) scope.names []) (bindC (envOfC qual scope s.heap.objs.size f cd).kindOf (ps.zip us) fun _=>none) s1):
  Inv (cxOf CX P w K mg base N qual scope f cd A outer s H E) [] (start N vs) H s1:=by
 have hpl:ps.length≤N.length:=by have:=congrArg List.length S.pre;rw [List.length_take] at this;lia
 obtain ⟨h1,tk,rfl,hk⟩:=x.done
 have noA:∀b:Addr,b∉(cxOf CX P w K mg base N qual scope f cd A outer s H E).ex:=fun b z=>absurd (show b∈([]:List Addr) from z) (by simp)
 refine ⟨⟨e0.mod,S.kind,rfl,rfl,Nat.le_refl _,fun y z c h1 h2=>?_,fun y hy=>?_,fun y c _ h=>?_,fun _=>hd,Around.frames_deeper e0.frames,.inr ⟨rfl,rfl⟩,fun b z=>absurd z (noA b),e0.bs,e0.bsz,fun b _ _=>noA b,fun b z=>absurd z (noA b),e0.funs,e0.frf⟩,
  rfl,e0.bare,Un.kept hk,⟨_,x.toInCall.ns,fun i y v h1 h2 h3=>?_⟩,fun y c h=>⟨_,x.cell y c h⟩,e0.hok.fresh (Nat.le_refl _),fun y c h=>?_,fun p hp=>absurd (show p∈([]:List (Addr×Obj)) from hp) (by simp),e0.hok.kept hk,?_⟩
 ·exact name_of_addr x.apart (PySem.mem_of_lookup h1) (PySem.mem_of_lookup h2)
 ·have hy:scope.names.lookup y=some .cell∨scope.names.lookup y=some .free:=hy
  rcases hy with hy|hy
  ·exact zR5 hy
  ·exact absurd rfl (S.nofree _ (PySem.mem_of_lookup hy))
 ·exact Nat.le_of_lt (x.above y c (PySem.mem_of_lookup h))
 ·have hi:i < vs.length:=by
   unfold start at h2
   by_cases hi:i < vs.length
   ·exact hi
   ·rw [List.getElem?_append_right (by simpa using hi)] at h2
    rw [List.getElem?_replicate] at h2
    split at h2<;>cases h2
  have ha:vs[i]?=some v:=by
   unfold start at h2
   rw [List.getElem?_append_left (by simpa using hi),zgm] at h2
   cases e:vs[i]? with
   | none=>rw [e] at h2;cases h2
   | some a=>rw [e] at h2;cases h2;rfl
  obtain ⟨u,hu,rv⟩:=r.get ha
  have hp:ps[i]?=some y:=by
   rw [←S.pre,List.getElem?_take_of_lt (by lia)];exact h1
  have ndP:ps.Nodup:=by rw [←S.pre];exact S.nd.sublist (List.take_sublist _ _)
  refine ⟨u,rv,?_⟩
  rcases S.par y (List.mem_of_getElem? hp) with k|k
  ·exact .inl ⟨k,zSM ndP hp hu k⟩
  ·obtain ⟨c,e⟩:=zR5 (n:=s.heap.objs.size+1) k
   refine .inr ⟨.inl k,c,e,?_⟩
   have q:=x.cell y c e
   rw [zSs ndP hp hu (by show scope.names.lookup y≠_;rw [k];decide)] at q
   exact q
 ·exact e0.hok.fresh (Nat.le_of_lt (x.above y c (PySem.mem_of_lookup h)))
 ·unfold start
  show _=N.length
  rw [zla,zlm,List.length_replicate]
  lia
theorem z4l {CX:CXT}{P:Program}{w:World}{K:Fg}{mg:Str→Option Value}{base:Heap}{k:Nat}{f:Addr}{name qual:Str}{params:Arguments}{body:List Stmt}{scope:Scope}{dV kV doc pm cdv ct oc:Value}{an od:Option Addr}
  {osl:Array (Option Value)}{N ps:List Str}{sp:Sp} (lk:K.lookup f=some ⟨oc,od,.func (PySem.W.fnOf name qual params body scope dV kV doc pm an cdv ct),osl⟩) (hcd:PySem.W.codeIn K cdv qual=true) (S:zO N ps scope)
  (len:∀vs H Q E,sp vs H Q E→vs.length=ps.length)
  (hbody:∀(A:Around) (outer:List Env) (s:Shared) (H:Hp) (vs:List V) (Q:VK) (E:XK),Room k (A.deeper (envOfC qual scope s.heap.objs.size f cdv))→sp vs H Q E→
   ∃t,PSs (cxOf CX P w K mg base N qual scope f cdv A outer s H E) body t∧t { nx:=fun _ H'=>Q .non H',rt:=Q } (start N vs) H):
  FnOk P w K mg base CX (k+1) f (PySem.W.fnOf name qual params body scope dV kV doc pm an cdv ct) ps sp:=by
 refine ⟨len,fun A outer s H args us vs Q E hr e0 hb r hsp=>?_⟩
 have hl:=len _ _ _ _ hsp
 have KX:K.In s.heap:=e0.mod.kin.keeps fun b o e=>(e0.bs b o e).1
 have lim:s.heap.NoLimit:=e0.mod.nolimit.keeps fun b o e=>(e0.bs b o e).1
 have hkind:∀y∈ps.zip us,scope.names.lookup y.1=some .local∨(scope.names.lookup y.1=some .cell∧((cellsFrom (s.heap.objs.size+1) scope.names []).lookup y.1).isSome=true):=fun ⟨n,v⟩ hy=>by
  rcases S.par n (List.of_mem_zip hy).1 with q|q
  ·exact .inl q
  ·exact .inr ⟨q,PySem.W.cellsFrom_some _ _ _ (.inl q)⟩
 refine codeAny_call_function hr.depth (KX _ _ lk) rfl S.co S.gen rfl (PySem.W.codeRec_of KX hcd) (hb _ _ _ _ ?_)
 refine wpAny_newFunctionEnv_cells S.kind hkind fun env he s1 x=>?_
 subst he
 refine ⟨lim.keeps x.toInCall.keep,codeAny_func ?_⟩
 obtain ⟨t,ht,hq⟩:=hbody A outer s H vs Q E (hr.deeper _) hsp
 have I:Inv (cxOf CX P w K mg base N qual scope f cdv A outer s H E) [] (start N vs) H s1:=z0Q S hr.hd e0 hl r x
 refine wpAny_mono (ht [] s1 (start N vs) H _ I hq) (fun fl s' hs=>?_) fun e s' hs=>hs
 have fin:∀{σ':St}{H':Hp}{v:V}{u:Value},Inv (cxOf CX P w K mg base N qual scope f cdv A outer s H E) [] σ' H' s'→RelV v u→Q v H'→CE outer P w H s Q u s':=
  fun {σ' H' v u} J rv q=>⟨v,H',J.os,J.bare,J.base,J.hok,rv,q⟩
 cases fl with
 | ret u=>
  obtain ⟨v,σ',H',J,rv,q⟩:=hs
  exact fin J rv q
 | next=>
  obtain ⟨σ',H',J,q⟩:=hs
  exact fin (v:=V.non) (u:=Value.none) J rfl q
 | brk=>
  obtain ⟨_,_,_,q⟩:=hs
  exact False.elim q
 | cont=>
  obtain ⟨_,_,_,q⟩:=hs
  exact False.elim q
open PySem PySem.Spec PyProof.Rows
section
variable {X:Cx}{x:Str}{p pos:Pos}{e:Expr}{es:List Expr}{t:TA}{id T:String}{r:List V→Hp→VK→Prop}
def tCB (r:List V→Hp→VK→Prop) (t:TA):TE:=fun σ H Q=>t σ H fun vs H1=>r vs H1 Q
theorem yS (hc:k9 X (.builtin id) r) (hg:Gl X x) (hm:X.mg x=none) (hv:bootBuiltins x=some (.builtin id)) (ha:PA X (e::es) t) (hn:x≠"__name__" := by decide) (hdb:(x == ("__debug__" : Str))=false:=by decide)
  (he:starEach (e::es) X.env=(false,eval e X.env)::starEach es X.env:=by rfl) (hpl:(backTo pos (starEach es X.env)).any (·.1)=false:=by rfl):PE X (.Call (.Name x p) (e::es) [] pos) (tCB r t):=by
 intro pins s σ H Q I h
 refine wpAny_Call_Name_kw (zTa I hg hm hv ?_ hn hdb)
 exact PyProof.Rows.callWith_builtin1 (thn (ha pos pins s σ H _ I h) fun us s1 ⟨vs,H1,I1,r1,q1⟩=>hc pins s1 σ H1 vs us Q I1 r1 q1) he hpl
theorem jS (hc:k9 X (.type T) r) (hg:Gl X x) (hm:X.mg x=none) (hv:bootBuiltins x=some (.type T)) (ha:PA X (e::es) t) (hn:x≠"__name__" := by decide) (hdb:(x == ("__debug__" : Str))=false:=by decide)
  (he:starEach (e::es) X.env=(false,eval e X.env)::starEach es X.env:=by rfl) (hpl:(backTo pos (starEach es X.env)).any (·.1)=false:=by rfl):PE X (.Call (.Name x p) (e::es) [] pos) (tCB r t):=by
 intro pins s σ H Q I h
 refine wpAny_Call_Name_kw (zTa I hg hm hv ?_ hn hdb)
 exact PyProof.Rows.callWith_type1 (thn (ha pos pins s σ H _ I h) fun us s1 ⟨vs,H1,I1,r1,q1⟩=>hc pins s1 σ H1 vs us Q I1 r1 q1) he hpl
end
end L2
namespace HT
open PySem PyProof.Rows
section
open PySem.SeqAt
open PySem.AutoSeq1 (wpAny_loadPart')
open PySem.MeetsSeq PySem.MeetsSeq2 PySem.MeetsSeq3
end
section
variable {prog:Program}{w:World}{A:Around}{E:Value→Shared→Prop}{s:Shared}
def sIx (n d:Nat):Option Int→Nat
 | none=>d
 | some v=>if v < 0 then (v+(n:Int)).toNat else min v.toNat n
theorem z5j (n d:Nat):sIx n d none=d:=rfl
theorem z5s (n d k:Nat):sIx n d (some (k:Int))=min k n:=by
 show (if (k:Int) < 0 then ((k:Int)+(n:Int)).toNat else min (k:Int).toNat n)=min k n
 rw [if_neg (by lia),Int.toNat_natCast]
end
end HT
namespace L2
open PySem PySem.Spec PyProof.Rows
abbrev TO:=St→Hp→(Option Int→Hp→Prop)→Prop
def PO (X:Cx) (e:Option Expr) (t:TO):Prop:=
 ∀(pins:List (Addr×Obj)) (s:Shared) (σ:St) (H:Hp) (Q:Option Int→Hp→Prop),Inv X pins σ H s→t σ H Q→
  wpAny (model X.prog X.w) X.A (evalPart e X.env) (fun u s'=>∃o H',Inv X pins σ H' s'∧IsPart u o∧Q o H') X.xe s
def z3l:TO:=fun _ H Q=>Q none H
inductive z4Q (x:V) (H1:Hp) (Q:Option Int→Hp→Prop):Prop
 | mk (i:_) (_:x=.int i) (_:Q (some i) H1):z4Q x H1 Q
def z5w (t:TE):TO:=fun σ H Q=>t σ H fun x H1=>z4Q x H1 Q
section
variable {X:Cx}{e:Expr}{te:TE}{lo hi:Option Expr}{tl th:TO}{pos p2:Pos}
theorem v8:PO X none z3l:=by
 intro pins s σ H Q I h
 rw [evalPart_none]
 exact wpAny_pure ⟨none,H,I,.none,h⟩
theorem xX (h:PE X e te):PO X (some e) (z5w te):=by
 intro pins s σ H Q I hw
 rw [evalPart_some]
 refine thn (h pins s σ H _ I hw) fun u s1 ⟨x,H1,I1,r1,q1⟩=>?_
 obtain ⟨i,rfl,q⟩:=q1
 obtain ⟨t,rfl⟩:=r1
 exact ⟨some i,H1,I1,.int i t,q⟩
def SlR (X:Cx) (r:V→Option Int→Option Int→Hp→VK→Prop):Prop:=
 ∀(pins:List (Addr×Obj)) (s:Shared) (σ:St) (H:Hp) (x:V) (v vl vu:Value) (lo hi:Option Int) (sl:Addr) (Q:VK),Inv X pins σ H s→RelV x v→s.heap.IsSliceOf sl vl vu .none→IsPart vl lo→IsPart vu hi→r x lo hi H Q→
  ∃T id,typeLookup (.type T) "__getitem__" = pure (some (.builtin id))∧s.TypeIs v T∧wpAny (model X.prog X.w) X.A (getItem v (.ref sl)) (EP X pins σ Q) X.xe s
def tSl (r:V→Option Int→Option Int→Hp→VK→Prop) (te:TE) (tl th:TO):TE:=fun σ H Q=>te σ H fun x H1=>tl σ H1 fun l H2=>th σ H2 fun u H3=>r x l u H3 Q
theorem y9 {r:V→Option Int→Option Int→Hp→VK→Prop} (hr:SlR X r) (he:PE X e te) (hl:PO X lo tl) (hu:PO X hi th):PE X (.Subscript e (.Slice lo hi none p2) pos) (tSl r te tl th):=by
 intro pins s σ H Q I h
 refine Subscript_ (thn (he pins s σ H _ I h) fun v s1 ⟨x,H1,I1,r1,q1⟩=>?_)
 refine wpAny_Slice (thn (hl pins s1 σ H1 _ I1 q1) fun vl s2 ⟨l,H2,I2,pl,q2⟩=>thn (hu pins s2 σ H2 _ I2 q2) fun vu s3 ⟨u,H3,I3,pu,q3⟩=>?_)
 rw [evalPart_none]
 refine wpAny_pure ?_
 have I4:Inv X pins σ H3 { s3 with heap:=s3.heap.push { cls:=.type "slice", data:=.fields #[vl,vu,.none] } }:=I3.kept (t':=s3.toks) fun b ob q=>Heap.get?_push_of_some _ q
 obtain ⟨T,id,hT,ht,hg⟩:=hr pins { s3 with heap:=s3.heap.push { cls:=.type "slice", data:=.fields #[vl,vu,.none] } } σ H3 x v vl vu l u s3.heap.objs.size Q I4 r1 (Heap.IsSliceOf.new ..) pl pu q3
 show wpAny (model X.prog X.w) X.A (subscriptTail e (.Slice lo hi none p2) v (.ref s3.heap.objs.size)) (EP X pins σ Q) X.xe { s3 with heap:=s3.heap.push { cls:=.type "slice", data:=.fields #[vl,vu,.none] } }
 exact tail_any (ops:=[.ref s3.heap.objs.size,v]) ht hT hg (by with_unfolding_all rfl)
def cutV (xs:List V) (lo hi:Option Int):List V:=(xs.drop (HT.sIx xs.length 0 lo)).take (HT.sIx xs.length xs.length hi-HT.sIx xs.length 0 lo)
theorem zRr (xs:List V) (lo hi:Option Int):(cutV xs lo hi).length≤xs.length:=by
 unfold cutV
 rw [List.length_take,List.length_drop]
 lia
end
open PySem PySem.Spec PyProof.Rows
def ixN (n:Nat) (i:Int):Option Nat:=if 0≤i then (if i < n then some i.toNat else none) else if -(n:Int)≤i then some (i+n).toNat else none
def atI {α:Type} (xs:List α) (i:Int):Option α:=(ixN xs.length i).bind fun j=>xs[j]?
theorem z0i {n:Nat}{i:Int}{j:Nat} (h:ixN n i=some j):seqIndex? i n=some j∧j < n∧-(n:Int)≤i∧i < n:=by
 unfold ixN at h
 by_cases h0:0≤i
 ·rw [if_pos h0] at h
  by_cases h1:i < n
  ·rw [if_pos h1] at h
   have e:i.toNat=j:=zsi h
   exact ⟨by rw [seqIndex_of h0 h1,e],by lia,by lia,h1⟩
  ·rw [if_neg h1] at h;cases h
 ·rw [if_neg h0] at h
  by_cases h1:-(n:Int)≤i
  ·rw [if_pos h1] at h
   have e:(i+n).toNat=j:=zsi h
   exact ⟨by rw [seqIndex_neg (by lia) h1,e],by lia,h1,by lia⟩
  ·rw [if_neg h1] at h;cases h
theorem z1Z {α:Type}{xs:List α}{i:Int}{v:α} (h:atI xs i=some v):∃j,seqIndex? i xs.length=some j∧xs[j]?=some v∧j < xs.length∧-(xs.length:Int)≤i∧i < xs.length:=by
 unfold atI at h
 cases e:ixN xs.length i with
 | none=>rw [e] at h;cases h
 | some j=>
  rw [e] at h
  obtain ⟨h1,h2,h3,h4⟩:=z0i e
  exact ⟨j,h1,h,h2,h3,h4⟩
theorem zVT {α:Type}{xs:List α}{j:Nat}{v:α} (h:xs[j]?=some v):atI xs (j:Int)=some v:=by
 have hj:j < xs.length:=(List.getElem?_eq_some_iff.mp h).1
 have e:ixN xs.length (j:Int)=some j:=by
  unfold ixN
  rw [if_pos (by lia),if_pos (by lia)];simp
 unfold atI;rw [e];exact h
def z3R (b:Expr):Prop:=∀o i,subscripted b false o i=operate [o,i] (getItem o i)
def IxR (X:Cx) (r:R2):Prop:=
 ∀(value slice:Expr) (pins:List (Addr×Obj)) (s:Shared) (σ:St) (H:Hp) (x y:V) (v u:Value) (Q:VK),Inv X pins σ H s→RelV x v→RelV y u→r x y H Q→
  subscripted slice false v u=operate [v,u] (getItem v u)→wpAny (model X.prog X.w) X.A (subscriptTail value slice v u) (EP X pins σ Q) X.xe s
def MtR (X:Cx) (id:String) (r:V→List V→Hp→VK→Prop):Prop:=
 ∀(pins:List (Addr×Obj)) (s:Shared) (σ:St) (H:Hp) (x:V) (xs:List V) (v:Value) (us:List Value) (Q:VK),Inv X pins σ H s→RelV x v→Vals xs us→r x xs H Q→
  wpAny (model X.prog X.w) X.A (call (.builtin id) (v::us)) (EP X pins σ Q) X.xe s
section
variable {X:Cx}{a b:Expr}{ta tb:TE}{pos:Pos}
theorem yP {r:R2} (hr:IxR X r) (ha:PE X a ta) (hb:PE X b tb) (hs:z3R b):PE X (.Subscript a b pos) (tOp r ta tb):=by
 intro pins s σ H Q I h
 exact Subscript_ (binT ha hb I h fun v u s2 x y H2 I2 rx ry q=>hr a b pins s2 σ H2 x y v u Q I2 rx ry q (hs _ _))
inductive rIxL (K:Fg) (x:V) (y:V) (H:Hp) (Q:VK):Prop
 | mk (p:_) (xs:_) (i:_) (v:_) (_:x=.ref p) (_:y=.int i) (_:SqL K H p xs) (_:atI xs i=some v) (_:Q v H):rIxL K x y H Q
inductive rIxT (K:Fg) (x:V) (y:V) (H:Hp) (Q:VK):Prop
 | mk (p:_) (xs:_) (i:_) (v:_) (_:x=.ref p) (_:y=.int i) (_:SqT K H p xs) (_:atI xs i=some v) (_:Q v H):rIxT K x y H Q
theorem z33:IxR X (rIxL X.K):=by
 intro value slice pins s σ H x y v u Q I rx ry h hs
 obtain ⟨p,xs,i,z,rfl,rfl,hq,he,q⟩:=h
 cases rx
 obtain ⟨t,rfl⟩:=ry
 obtain ⟨its,r,pl,hz⟩:=I.list hq
 obtain ⟨j,h1,h2,h3,h4,h5⟩:=z1Z he
 obtain ⟨w,ew,rw'⟩:=r.get h2
 have hl:=r.length
 have hn:=zQD
 have fin:EP X pins σ Q w s:=⟨z,H,I,rw',q⟩
 by_cases h0:0≤i
 ·have hj:i.toNat=j:=by
   rw [seqIndex_of h0 h5] at h1
   exact zsi h1
  exact item_listR pl.isList h0 (by lia) (by rw [hj];simpa using ew) fin hs
 ·have hj:(i+(its.toArray.size:Int)).toNat=j:=by
   rw [seqIndex_neg (by lia) h4] at h1
   rw [List.size_toArray,←hl]
   exact zsi h1
  exact subscriptTail_builtinR (x:=w) pl.isList.typeIs slot_list_getitem.lookup
   (wpAny_getItem_list_neg (Q:=fun r s'=>r=w∧EP X pins σ Q r s') pl.isList (by lia) (by rw [List.size_toArray]<;>lia) (by lia) (by rw [hj];simpa using ew) ⟨rfl,fin⟩) hs
theorem z4X:IxR X (rIxT X.K):=by
 intro value slice pins s σ H x y v u Q I rx ry h hs
 obtain ⟨p,xs,i,z,rfl,rfl,hq,he,q⟩:=h
 cases rx
 obtain ⟨t,rfl⟩:=ry
 obtain ⟨its,r,pl,hz⟩:=I.tuple hq
 obtain ⟨j,h1,h2,h3,h4,h5⟩:=z1Z he
 obtain ⟨w,ew,rw'⟩:=r.get h2
 have hl:=r.length
 have hn:=zQD
 have fin:EP X pins σ Q w s:=⟨z,H,I,rw',q⟩
 exact subscriptTail_builtinR (x:=w) pl.typeIs slot_tuple_getitem.lookup
  (getItem_tuple (j:=j) (Q:=fun r s'=>r=w∧EP X pins σ Q r s') pl (by lia) (by lia) (by rw [List.size_toArray,←hl];exact h1) (by simpa using ew) ⟨rfl,fin⟩) hs
theorem zQP (its:List Value) (n j:Nat) (u:Value):Obj.mapSeq (·.setIfInBounds j u) { cls:=.type "list", data:=.seq its.toArray n }={ cls:=.type "list", data:=.seq (its.set j u).toArray n }:=by
 simp [Obj.mapSeq]
theorem Inv.lst {pins:List (Addr×Obj)}{σ:St}{H:Hp}{s:Shared}{p:Addr}{xs:List V} (I:Inv X pins σ H s) (h:H p=some (.lst xs)):
  ∃(its:List Value) (n:Nat),Vals xs its∧s.heap.get? p=some { cls:=.type "list", data:=.seq its.toArray n }∧xs.length≤sizeLine:=by
 obtain ⟨z,its,n,r,e⟩:=I.hok p _ h
 exact ⟨its,n,r,e,z⟩
theorem Inv.lstUpd {pins:List (Addr×Obj)}{σ:St}{H:Hp}{s:Shared}{p:Addr}{xs ys:List V}{its its':List Value}{n n':Nat}{f:Obj→Obj} (I:Inv X pins σ H s) (h:H p=some (.lst xs))
  (ho:s.heap.get? p=some { cls:=.type "list", data:=.seq its.toArray n }) (hf:f { cls:=.type "list", data:=.seq its.toArray n }={ cls:=.type "list", data:=.seq its'.toArray n' }) (r:Vals ys its') (hz:ys.length≤sizeLine) (t:Nat):
  Inv X pins σ (upd H p (.lst ys)) { s with heap:=s.heap.update p f,toks:=t }:=by
 have e:(s.heap.update p f).get? p=some { cls:=.type "list", data:=.seq its'.toArray n' }:=by
  rw [Heap.get?_update_self f ho (by rw [hf]<;>rfl),hf]
 refine I.write (x:=p) (e:=p) (by rw [h];trivial) (.inl rfl) (fun b u hb q=>(Heap.get?_update_other _ _ (Ne.symm hb)).trans q) ⟨_,e⟩ ?_
 exact ⟨hz,its',n',r,e⟩
inductive z2h  (o:V) (i:V) (v:V) (H:Hp) (Q:(Hp→Prop)):Prop
 | mk (p:_) (xs:_) (k:_) (j:_) (_:o=.ref p) (_:i=.int k) (_:H p=some (.lst xs)) (_:ixN xs.length k=some j) (_:Q (upd H p (.lst (xs.set j v)))):z2h o i v H Q
theorem set_list:PSet X z2h:=by
 intro pins s σ H o i v ov iv u Q I ro ri rv h
 obtain ⟨p,xs,k,j,rfl,rfl,hp,hj,q⟩:=h
 cases ro
 obtain ⟨t,rfl⟩:=ri
 obtain ⟨its,n,r,ho,hz⟩:=I.lst hp
 obtain ⟨h1,h2,h3,h4⟩:=z0i hj
 have hl:=r.length
 have hn:=zQD
 have I':Inv X pins σ (upd H p (.lst (xs.set j v))) { s with heap:=s.heap.update p (Obj.mapSeq (·.setIfInBounds j u)) }:=
  I.lstUpd hp ho (zQP its n j u) (r.set rv j) (by rw [List.length_set];exact hz) s.toks
 by_cases h0:0≤k
 ·have hk:k.toNat=j:=by
   rw [seqIndex_of h0 h4] at h1
   exact zsi h1
  exact PySem.W.ki_setAt ho h0 (by lia) (by rw [List.size_toArray,←hl];exact h4) (by rw [hk];exact ⟨_,I',q⟩)
 ·have hk:(k+(its.toArray.size:Int)).toNat=j:=by
   rw [seqIndex_neg (by lia) h3] at h1
   rw [List.size_toArray,←hl]
   exact zsi h1
  exact PySem.W.ki_setBack ho (by lia) (by rw [List.size_toArray,←hl];exact h3) (by lia) (by rw [hk];exact ⟨_,I',q⟩)
theorem zSn (lo hi:Option Int) (n:Nat):(sliceBounds lo hi none n).1=((HT.sIx n 0 lo:Nat):Int)∧(sliceBounds lo hi none n).2.1=((HT.sIx n n hi:Nat):Int)∧(sliceBounds lo hi none n).2.2=1:=by
 refine ⟨?_,?_,rfl⟩
 ·cases lo with
  | none=>simp [sliceBounds,HT.sIx]
  | some i=>
   simp only [sliceBounds,HT.sIx,Option.getD_none,show (1:Int) > 0 by decide,if_true]
   by_cases h:i < 0
   ·simp only [h,if_true]<;>lia
   ·simp only [h,if_false]<;>lia
 ·cases hi with
  | none=>simp [sliceBounds,HT.sIx]
  | some i=>
   simp only [sliceBounds,HT.sIx,Option.getD_none,show (1:Int) > 0 by decide,if_true]
   by_cases h:i < 0
   ·simp only [h,if_true]<;>lia
   ·simp only [h,if_false]<;>lia
theorem zTC (its:List Value) (lo hi:Option Int):slicePick its.toArray lo hi none=((its.drop (HT.sIx its.length 0 lo)).take (HT.sIx its.length its.length hi-HT.sIx its.length 0 lo)).toArray:=by
 obtain ⟨h1,h2,h3⟩:=zSn lo hi its.toArray.size
 unfold slicePick
 rw [h1,h2,h3]
 simp only [sliceRange_one,pick_run,List.size_toArray]<;>rfl
inductive rSlL (K:Fg) (x:V) (lo:Option Int) (hi:Option Int) (H:Hp) (Q:VK):Prop
 | mk (a:_) (xs:_) (_:x=.ref a) (_:SqL K H a xs) (_:∀p,H p=none→Q (.ref p) (upd H p (.lst (cutV xs lo hi)))):rSlL K x lo hi H Q
theorem z3n:SlR X (rSlL X.K):=by
 intro pins s σ H x v vl vu lo hi sl Q I rx hs pl pu h
 obtain ⟨a,xs,rfl,hx,q⟩:=h
 cases rx
 obtain ⟨its,r,ht,hz⟩:=I.list hx
 have hlen:=r.length
 refine ⟨"list", _,slot_list_getitem.lookup,ht.isList.typeIs,?_⟩
 refine wpAny_getItem_list_slice ht.isList hs pl pu .none (by simp) ?_ (by rw [List.size_toArray]<;>lia)
 rw [zTC,←hlen]
 refine ⟨.ref s.heap.objs.size,_,I.laid (t':=s.toks) (o:=.lst (cutV xs lo hi)) (fun b ob q=>Heap.get?_push_of_some _ q) (Nat.le_refl _) ?_,rfl,q _ (I.hok.fresh (Nat.le_refl _))⟩
 exact ⟨Nat.le_trans (zRr xs lo hi) hz,_,0,(r.drop (HT.sIx xs.length 0 lo)).take (HT.sIx xs.length xs.length hi-HT.sIx xs.length 0 lo),Heap.get?_push_size _ rfl⟩
def zVB:V→Bool
 | .non=>true
 | .bl _=>true
 | .int _=>true
 | .str _=>true
 | _=>false
def eqV:V→V→Bool
 | .non,.non=>true
 | .bl a,.bl b=>a == b
 | .bl a,.int b=>(if a then 1 else 0) == b
 | .int a,.bl b=>a == (if b then 1 else 0)
 | .int a,.int b=>a == b
 | .str a,.str b=>a == b
 | _,_=>false
theorem z4m {A:Around}{s:Shared}{y x:V}{u v:Value} (ry:RelV y u) (rx:RelV x v) (fy:zVB y=true) (fx:zVB x=true):SeqAt.EqAt A s u v (eqV y x):=by
 cases y with
 | non=>
  cases ry
  cases x with
  | non=>cases rx;exact SeqAt.EqAt.same _
  | bl b=>cases rx;exact SeqAt.EqAt.none_bool b
  | int b=>obtain ⟨t,rfl⟩:=rx;exact SeqAt.EqAt.none_int b t
  | str b=>obtain ⟨t,rfl⟩:=rx;exact SeqAt.EqAt.none_str b t
  | _=>exact absurd (show false=true from fx) Bool.false_ne_true
 | bl a=>
  cases ry
  cases x with
  | non=>cases rx;exact SeqAt.EqAt.bool_none a
  | bl b=>cases rx;exact SeqAt.EqAt.bool_bool a b
  | int b=>obtain ⟨t,rfl⟩:=rx;exact SeqAt.EqAt.bool_int a b t
  | str b=>obtain ⟨t,rfl⟩:=rx;exact SeqAt.EqAt.bool_str a b t
  | _=>exact absurd (show false=true from fx) Bool.false_ne_true
 | int a=>
  obtain ⟨t',rfl⟩:=ry
  cases x with
  | non=>cases rx;exact SeqAt.EqAt.int_none a t'
  | bl b=>cases rx;exact SeqAt.EqAt.int_bool a t' b
  | int b=>obtain ⟨t,rfl⟩:=rx;exact SeqAt.EqAt.int_int a t' b t
  | str b=>obtain ⟨t,rfl⟩:=rx;exact SeqAt.EqAt.int_str a t' b t
  | _=>exact absurd (show false=true from fx) Bool.false_ne_true
 | str a=>
  obtain ⟨t',rfl⟩:=ry
  cases x with
  | non=>cases rx;exact SeqAt.EqAt.str_none a t'
  | bl b=>cases rx;exact SeqAt.EqAt.str_bool a t' b
  | int b=>obtain ⟨t,rfl⟩:=rx;exact SeqAt.EqAt.str_int a t' b t
  | str b=>obtain ⟨t,rfl⟩:=rx;exact SeqAt.EqAt.str_str a t' b t
  | _=>exact absurd (show false=true from fx) Bool.false_ne_true
 | _=>exact absurd (show false=true from fy) Bool.false_ne_true
def eqU (x:V) (u:Value):Bool:=match u with
 | .none=>eqV .non x
 | .bool b=>eqV (.bl b) x
 | .int i _=>eqV (.int i) x
 | .str z _=>eqV (.str z) x
 | _=>false
theorem zQB {x y:V}{u:Value} (r:RelV y u) (f:zVB y=true):eqU x u=eqV y x:=by
 cases y with
 | non=>cases r;rfl
 | bl b=>cases r;rfl
 | int i=>obtain ⟨t,rfl⟩:=r;rfl
 | str z=>obtain ⟨t,rfl⟩:=r;rfl
 | _=>exact absurd (show false=true from f) Bool.false_ne_true
theorem zRe {x:V}:∀{xs:List V}{us:List Value},Vals xs us→xs.all zVB=true→us.any (eqU x)=xs.any fun y=>eqV y x
 | _,_,.nil,_=>rfl
 | y::xs,u::us,.cons r t,f=>by
  rw [List.all_cons,zbt] at f
  rw [List.any_cons,List.any_cons,zQB r f.1,zRe t f.2]
theorem zVL {A:Around}{s:Shared}{x:V}{v:Value} (rx:RelV x v) (fx:zVB x=true):∀{xs:List V}{us:List Value},Vals xs us→xs.all zVB=true→∀u∈us,SeqAt.EqAt A s u v (eqU x u)
 | _,_,.nil,_=>fun u hu=>by cases hu
 | y::xs,u::us,.cons r t,f=>fun u' hu=>by
  rw [List.all_cons,zbt] at f
  rcases List.mem_cons.mp hu with rfl|hu
  ·rw [zQB r f.1];exact z4m r rx f.1 fx
  ·exact zVL rx fx t f.2 u' hu
def inV (x:V) (xs:List V):Bool:=xs.any fun y=>eqV y x
inductive rIn (K:Fg) (neg:Bool) (x:V) (y:V) (H:Hp) (Q:VK):Prop
 | mk (p:_) (xs:_) (_:y=.ref p) (_:(SqL K H p xs∨SqT K H p xs)) (_:zVB x=true) (_:xs.all zVB=true) (_:Q (.bl (if neg then !inV x xs else inV x xs)) H):rIn K neg x y H Q
theorem zSk:OpR X (compareOp .In) (rIn X.K false):=by
 intro pins s σ H x y v u Q I rx ry h
 obtain ⟨p,xs,rfl,hq,fx,fs,q⟩:=h
 cases ry
 rcases hq with hq|hq
 ·obtain ⟨its,r,pl,hz⟩:=I.list hq
  refine SeqAt.in_listAt (eqU x) pl.isList (fun w hw=>zVL rx fx r fs w (by simpa using hw)) ⟨.bl _,H,I,rfl,?_⟩
  rw [show its.toArray.any (eqU x)=its.any (eqU x) by simp,zRe r fs]
  exact q
 ·obtain ⟨its,r,pl,hz⟩:=I.tuple hq
  refine SeqAt.in_tupleAt (eqU x) pl (fun w hw=>zVL rx fx r fs w (by simpa using hw)) ⟨.bl _,H,I,rfl,?_⟩
  rw [show its.toArray.any (eqU x)=its.any (eqU x) by simp,zRe r fs]
  exact q
inductive rLen (K:Fg) (xs:List V) (H:Hp) (Q:VK):Prop
 | mk (p:_) (ys:_) (_:xs=[.ref p]) (_:(SqL K H p ys∨SqT K H p ys)) (_:Q (.int ys.length) H):rLen K xs H Q
theorem zSZ:k9 X (.builtin "len") (rLen X.K):=by
 intro pins s σ H xs us Q I r h
 obtain ⟨p,ys,rfl,hq,q⟩:=h
 obtain ⟨u,rfl,rx⟩:=vals1 r
 cases rx
 have hn:=zQD
 rcases hq with hq|hq
 ·obtain ⟨its,r',pl,hz⟩:=I.list hq
  have hlen:=r'.length
  exact Calls.call_len_list pl.isList (by simp only [List.size_toArray]<;>lia) ⟨.int ys.length,H,I.tok _,⟨s.toks+1,by rw [List.size_toArray,hlen]⟩,q⟩
 ·obtain ⟨its,r',pl,hz⟩:=I.tuple hq
  have hlen:=r'.length
  exact len_tuple pl (by simp only [List.size_toArray]<;>lia) ⟨.int ys.length,H,I.tok _,⟨s.toks+1,by rw [List.size_toArray,hlen]⟩,q⟩
theorem zS6:k9 X (.type "list") (fun xs H Q=>∃p ys,xs=[.ref p]∧(SqL X.K H p ys∨SqT X.K H p ys)∧∀l,H l=none→Q (.ref l) (upd H l (.lst ys))):=by
 intro pins s σ H xs us Q I r h
 obtain ⟨p,ys,rfl,hq,q⟩:=h
 obtain ⟨u,rfl,rx⟩:=vals1 r
 cases rx
 have fin:∀(its:List Value),Vals ys its→ys.length≤sizeLine→∀(h':Heap) (c':Nat),(∀b o',s.heap.get? b=some o'→h'.get? b=some o')→
   h'.get? s.heap.objs.size=some { cls:=.type "list", dict:=none,data:=.seq its.toArray c',slots:=#[] }→EP X pins σ Q (.ref s.heap.objs.size) { s with heap:=h' }:=fun its r' hz h' c' kp e=>
  ⟨.ref s.heap.objs.size,_,I.laid (t':=s.toks) kp (Nat.le_refl _) (show zZr X.prog X.w _ h' _ (.lst ys) from ⟨hz,its,c',r',e⟩),rfl,q _ (I.hok.fresh (Nat.le_refl _))⟩
 rcases hq with hq|hq
 ·obtain ⟨its,r',pl,hz⟩:=I.list hq
  have hlen:=r'.length
  obtain ⟨o,ho,hc,n,hd⟩:=pl.isList
  exact call_list_seq p (.inl rfl) ho hc hd (fun h' c' kp e=>fin its r' hz h' c' kp e) (by simp only [List.size_toArray]<;>lia)
 ·obtain ⟨its,r',pl,hz⟩:=I.tuple hq
  have hlen:=r'.length
  obtain ⟨o,ho,hc,n,hd⟩:=pl
  exact call_list_seq p (.inr rfl) ho hc hd (fun h' c' kp e=>fin its r' hz h' c' kp e) (by simp only [List.size_toArray]<;>lia)
def tyV (K:Fg) (T:String) (x:V) (H:Hp):Prop:=match x with
 | .str _=>T = "str"
 | .int _=>T = "int"
 | .ref p=>(T = "list" ∧ ∃xs,SqL K H p xs)∨(T = "tuple" ∧ ∃o,K.lookup p=some o∧o.cls=.type "tuple" ∧ o.dict=none)∨
   (T = "dict" ∧ ((∃kvs,H p=some (.dK kvs))∨∃kvs,H p=some (.dT kvs)))∨(T = "set" ∧ ∃S n,H p=some (.set S n))
 | _=>False
theorem z4R {pins:List (Addr×Obj)}{σ:St}{H:Hp}{s:Shared}{T:String}{x:V}{v:Value} (I:Inv X pins σ H s) (r:RelV x v) (ty:tyV X.K T x H):
  s.TypeIs v T∧∀a,v=.ref a→∃ob,s.heap.get? a=some ob∧ob.dict=none:=by
 cases x with
 | str z=>
  obtain ⟨t,rfl⟩:=r
  cases (show T = "str" from ty)
  exact ⟨typeIs_str s z t,fun _ e=>nomatch e⟩
 | int i=>
  obtain ⟨t,rfl⟩:=r
  cases (show T = "int" from ty)
  exact ⟨typeIs_int s i t,fun _ e=>nomatch e⟩
 | ref p=>
  cases r
  rcases ty with ⟨rfl,xs,hq⟩|⟨rfl,o,hk,hc,hd⟩|⟨rfl,hk⟩|⟨rfl,S,n,hk⟩
  ·obtain ⟨its,_,pl,_⟩:=I.list hq
   refine ⟨pl.isList.typeIs,fun a e=>?_⟩
   cases e
   obtain ⟨o,n,e,c,hd,_⟩:=pl
   exact ⟨o,e,hd⟩
  ·refine ⟨⟨o,I.kIn p o hk,hc⟩,fun a e=>?_⟩
   cases e
   exact ⟨o,I.kIn _ o hk,hd⟩
  ·have z:∃o,s.heap.get? p=some o∧o.ExactDict:=by
    rcases hk with ⟨kvs,hk⟩|⟨kvs,hk⟩
    ·obtain ⟨_,_,_,_,o,_,_,e,ex,_⟩:=I.hok p _ hk
     exact ⟨o,e,ex⟩
    ·obtain ⟨_,_,_,_,o,_,_,e,ex,_⟩:=I.hok p _ hk
     exact ⟨o,e,ex⟩
   obtain ⟨o,e,ex⟩:=z
   refine ⟨⟨o,e,ex.1⟩,fun a e2=>?_⟩
   cases e2
   exact ⟨o,e,ex.2.1⟩
  ·obtain ⟨o,_,_,_,e,ex,_⟩:=I.hok p _ hk
   refine ⟨⟨o,e,ex.1⟩,fun a e2=>?_⟩
   cases e2
   exact ⟨o,e,ex.2.1⟩
 | _=>exact False.elim ty
def tBM (K:Fg) (T:String) (r:V→List V→Hp→VK→Prop) (to:TE) (t:TA):TE:=fun σ H Q=>to σ H fun x H1=>tyV K T x H1∧t σ H1 fun xs H2=>r x xs H2 Q
variable {o e:Expr}{es:List Expr}{to:TE}{t:TA}{name:Str}{apos cpos:Pos}{T id:String}{r:V→List V→Hp→VK→Prop}
theorem zXp (pa:PlainAttrs T) (slot:Slot T name id) (hty:typeOf (.builtin id)=pure (.type "method_descriptor")) (hm:MtR X id r) (ho:PE X o to) (ha:PA X (e::es) t)
  (hbase:attributeBase o name X.env (eval o X.env)=eval o X.env:=by rfl)
  (hfew:((backTo cpos (starEach (e::es) X.env)).all (fun x=>!x.1) && (backToKw cpos (keywordEach [] X.env)).all (fun x=>x.1.isSome)
   && decide ((e::es).length+([]:List Keyword).length+(if ([]:List Keyword).isEmpty then 0 else 1) < 30))=true:=by rfl)
  (hline:(apos.endLine == cpos.line)=true:=by rfl) (hs:starEach (e::es) X.env=(false,eval e X.env)::starEach es X.env:=by rfl) (hplain:(backTo cpos (starEach es X.env)).any (·.1)=false:=by rfl):
  PE X (.Call (.Attribute o name apos) (e::es) [] cpos) (tBM X.K T r to t):=by
 intro pins s σ H Q I h
 refine wpAny_Call_method_late hbase hfew hline rfl (thn (ho pins s σ H _ I h) fun v s1 ⟨x,H1,I1,r1,ty,q1⟩=>?_)
 obtain ⟨h1,h2⟩:=z4R I1 r1 ty
 refine ⟨T,id,pa,slot,hty,h1,h2,?_⟩
 have hA:=ha cpos pins s1 σ H1 _ I1 q1
 rw [hs] at hA ⊢
 refine Calls.callWith_builtin (by show (false || (backTo cpos (starEach es X.env)).any (·.1))=false;rw [hplain]<;>rfl) (Calls.evalArgs_plain ?_)
 exact thn hA fun us s2 ⟨vs,H2,I2,r2,q2⟩=>hm pins s2 σ H2 x vs v us Q I2 r1 r2 q2
end
open PySem PySem.Spec PyProof.Rows
def MtM (X:Cx) (id:String) (r:V→List V→Hp→VK→Prop):Prop:=
 ∀(pins:List (Addr×Obj)) (s:Shared) (σ:St) (H:Hp) (x:V) (xs:List V) (v:Value) (us:List Value) (Q:VK),Inv X pins σ H s→RelV x v→Vals xs us→r x xs H Q→
  wpAny (model X.prog X.w) X.A (call (.builtin id) (v::us)) (EP X pins σ Q) X.xe s
theorem Vals.one:∀{x:V}{us:List Value},Vals [x] us→∃u,us=[u]∧RelV x u
 | _,_,.cons r .nil=>⟨_,rfl,r⟩
section
variable {X:Cx}{pins:List (Addr×Obj)}{σ:St}{H:Hp}{s:Shared}{l b:Addr}{xs ys zs:List V}
theorem Inv.lset {its its':List Value}{n:Nat}{f:Array Value→Array Value}{t':Nat} (I:Inv X pins σ H s) (hH:H l=some (.lst xs))
  (e:s.heap.get? l=some { cls:=.type "list", data:=.seq its.toArray n }) (hf:f its.toArray=its'.toArray) (hv:Vals ys its') (hz:ys.length≤sizeLine):
  Inv X pins σ (upd H l (.lst ys)) { s with heap:=s.heap.update l (Obj.mapSeq f),toks:=t' }:=by
 have q:=PySem.IsL.update e f
 rw [hf] at q
 refine I.write (x:=l) (e:=l) (by rw [hH];exact trivial) (.inl rfl) (fun b' u hb hu=>(Heap.get?_update_other s.heap (Obj.mapSeq f) (Ne.symm hb)).trans hu) ⟨_,q⟩ ?_
 exact ⟨hz,its',_,hv,q⟩
theorem Inv.lnew {its:List Value}{t':Nat} (I:Inv X pins σ H s) (hv:Vals ys its) (hz:ys.length≤sizeLine):
  Inv X pins σ (upd H s.heap.objs.size (.lst ys)) { s with heap:=s.heap.push { cls:=.type "list", data:=.seq its.toArray },toks:=t' }:=
 I.laid (fun _ _ q=>Heap.get?_push_of_some _ q) (Nat.le_refl _) ⟨hz,its,0,hv,Heap.get?_push_size _ rfl⟩
theorem Inv.fresh (I:Inv X pins σ H s):H s.heap.objs.size=none:=I.hok.fresh (Nat.le_refl _)
theorem Inv.lstM (I:Inv X pins σ H s) (hH:H l=some (.lst xs)):xs.length≤sizeLine∧∃(its:List Value) (n:Nat),Vals xs its∧xs.length=its.length∧s.heap.get? l=some { cls:=.type "list", data:=.seq its.toArray n }:=by
 obtain ⟨z,its,n,r,e⟩:=I.hok l _ hH
 exact ⟨z,its,n,r,r.length,e⟩
theorem z2z {n:Nat} (h:n≤sizeLine):Builtin.List.listTooLong n=false:=by
 unfold Builtin.List.listTooLong
 exact decide_eq_false (by lia)
end
section
variable {X:Cx}
inductive zUy  (x:V) (vs:List V) (H:Hp) (Q:VK):Prop
 | mk (l:_) (xs:_) (y:_) (_:x=.ref l) (_:vs=[y]) (_:H l=some (.lst xs)) (_:xs.length < sizeLine) (_:Q .non (upd H l (.lst (xs++[y])))):zUy x vs H Q
theorem zZy:MtM X "list.append" zUy:=by
 intro pins s σ H x vs v us Q I rx rv h
 obtain ⟨l,xs,y,rfl,rfl,hH,hz,q⟩:=h
 cases rx
 obtain ⟨u,rfl,ru⟩:=rv.one
 obtain ⟨z,its,n,r,hl,e⟩:=I.lstM hH
 refine call_meets F.slot_list_append ⟨_,e,rfl⟩ F.entry_list_append (F.args_list_append_2 _ _) (PySem.list_append l its.toArray n u (by rw [List.size_toArray];lia)) ⟨e,?_⟩
 refine ⟨.non,_,I.lset (its':=its++[u]) hH e (by simp) (r.append (.cons ru .nil)) ?_,rfl,q⟩
 rw [zla,List.length_singleton]
 lia
inductive zTK  (x:V) (vs:List V) (H:Hp) (Q:VK):Prop
 | mk (l:_) (b:_) (xs:_) (zs:_) (_:x=.ref l) (_:vs=[.ref b]) (_:H l=some (.lst xs)) (_:H b=some (.lst zs)) (_:xs.length+zs.length≤sizeLine) (_:Q .non (upd H l (.lst (xs++zs)))):zTK x vs H Q
theorem kT:MtM X "list.extend" zTK:=by
 intro pins s σ H x vs v us Q I rx rv h
 obtain ⟨l,b,xs,zs,rfl,rfl,hH,hB,hz,q⟩:=h
 cases rx
 obtain ⟨u,rfl,ru⟩:=rv.one
 cases ru
 obtain ⟨z,its,n,r,hl,e⟩:=I.lstM hH
 obtain ⟨z2,its2,n2,r2,hl2,e2⟩:=I.lstM hB
 have hsz:its.toArray.size+its2.toArray.size≤sizeLine:=by rw [List.size_toArray,List.size_toArray];lia
 have hlong:¬(!its.toArray.isEmpty && Builtin.List.listTooLong (its.toArray.size+its2.toArray.size))=true:=by
  rw [z2z hsz,Bool.and_false]
  exact Bool.false_ne_true
 refine call_meets F.slot_list_extend ⟨_,e,rfl⟩ F.entry_list_extend (F.args_list_extend_2 _ _)
  (AutoSeq1.list_extend_list_list_0 l its.toArray n b its2.toArray n2 hlong (by rw [List.size_toArray];lia) (by lia)) ⟨e,e2,?_⟩
 refine ⟨.non,_,I.lset (its':=its++its2) hH e (by simp) (r.append r2) ?_,rfl,q⟩
 rw [zla]
 lia
inductive rCat  (x:V) (y:V) (H:Hp) (Q:VK):Prop
 | mk (l:_) (b:_) (xs:_) (zs:_) (_:x=.ref l) (_:y=.ref b) (_:H l=some (.lst xs)) (_:H b=some (.lst zs)) (_:xs.length+zs.length≤sizeLine) (_:∀p,H p=none→Q (.ref p) (upd H p (.lst (xs++zs)))):rCat x y H Q
theorem v5:OpR X (binaryOp .Add) rCat:=by
 intro pins s σ H x y v u Q I rx ry h
 obtain ⟨l,b,xs,zs,rfl,rfl,hH,hB,hz,q⟩:=h
 cases rx
 cases ry
 obtain ⟨z,its,n,r,hl,e⟩:=I.lstM hH
 obtain ⟨z2,its2,n2,r2,hl2,e2⟩:=I.lstM hB
 refine PySem.P.add_list e e2 ?_ (by rw [List.size_toArray,List.size_toArray];lia)
 have ea:its.toArray++its2.toArray=(its++its2).toArray:=by simp
 rw [ea]
 exact ⟨.ref _,_,I.lnew (t':=s.toks) (r.append r2) (by rw [zla];lia),rfl,q _ I.fresh⟩
end
section
variable {prog:Program}{w:World}{A:Around}{E:Value→Shared→Prop}{s:Shared}
set_option maxRecDepth 100000 in
end
section
variable {X:Cx}
end
open PySem PySem.Spec PyProof.Rows
theorem Vals.ints:∀{ns:List Int}{us:List Value},Vals (ns.map V.int) us→IntsAre us ns
 | [],us,h=>by
  rw [List.map_nil] at h
  cases h
  exact IntsAre.nil
 | n::ns,us,h=>by
  rw [List.map_cons] at h
  cases h with
  | cons r t=>
   obtain ⟨k,rfl⟩:=r
   exact IntsAre.cons n k (Vals.ints t)
theorem zVm:∀{us:List Value}{ns:List Int},IntsAre us ns→Vals (ns.map V.int) us
 | _,_,.nil=>by rw [List.map_nil];exact Paired.nil
 | _,_,.cons n t h=>by rw [List.map_cons];exact Paired.cons (show RelV (V.int n) (Value.int n t) from ⟨t,rfl⟩) (zVm h)
theorem Vals.bls:∀{bs:List Bool}{us:List Value},Vals (bs.map V.bl) us→us=bs.map Value.bool
 | [],us,h=>by
  rw [List.map_nil] at h
  cases h
  rfl
 | b::bs,us,h=>by
  rw [List.map_cons] at h
  cases h with
  | cons r t=>
   cases r
   rw [Vals.bls t,List.map_cons]
theorem Vals.ref1 {a:Addr}{us:List Value} (r:Vals [V.ref a] us):us=[Value.ref a]:=by
 cases r with
 | cons r t=>
  cases t
  cases r
  rfl
section
variable {prog:Program}{w:World}{A:Around}{E:Value→Shared→Prop}{s:Shared}{l:Addr}{its:List Value}{ns:List Int}{Q:Value→Shared→Prop}
theorem z3U (hh:A.handled=none) (hl:s.heap.IsList l its.toArray) (hi:IntsAre its ns)
  (h:∀h' tk t',(∀b o,s.heap.get? b=some o→h'.get? b=some o)→Q (.int ns.sum t') { s with heap:=h',toks:=tk }):wpAny (model prog w) A (call (.builtin "sum") [.ref l]) Q E s:=by
 obtain ⟨xs,e⟩:=hi.allInts.items
 have hn:numsOf (intItems xs).toList=ns:=by rw [←e];exact hi.numsOf
 rw [nums_intItems] at hn
 rw [e] at hl
 refine PySem.sum_intListG hh hl fun h' tk t' hk=>?_
 have:=h h' tk t' hk
 rw [preSum_eq,List.take_of_length_le (by simp),hn];exact this
theorem z3Y (hh:A.handled=none) (hl:s.heap.IsList l its.toArray) (hi:IntsAre its ns) (hne:0 < ns.length)
  (h:∀h' tk M t',(∀b o,s.heap.get? b=some o→h'.get? b=some o)→M∈ns→(∀a,a∈ns→a≤M)→Q (.int M t') { s with heap:=h',toks:=tk }):wpAny (model prog w) A (call (.builtin "max") [.ref l]) Q E s:=by
 obtain ⟨xs,e⟩:=hi.allInts.items
 have hn:numsOf (intItems xs).toList=ns:=by rw [←e];exact hi.numsOf
 rw [nums_intItems] at hn
 subst hn
 rw [e] at hl
 have hsz:0 < xs.size:=by simpa using hne
 refine PySem.max_intList hh hl hsz fun v h' tk hv hk=>?_
 obtain ⟨t,rfl⟩:=intItems_at hv
 obtain ⟨h1,h2⟩:=argBest_gt (numAt xs) (xs.size-1)
 refine h h' tk _ t hk ?_ fun a ha=>?_
 ·rw [numAt_eq];exact PySem.getD_mem (by rw [zlm,Array.length_toList];lia)
 ·obtain ⟨j,hj,rfl⟩:=mem_getD ha
  rw [zlm,Array.length_toList] at hj
  rw [←numAt_eq];exact h2 j (by lia)
theorem z3W (hh:A.handled=none) (hl:s.heap.IsList l its.toArray) (hi:IntsAre its ns) (hne:0 < ns.length)
  (h:∀h' tk M t',(∀b o,s.heap.get? b=some o→h'.get? b=some o)→M∈ns→(∀a,a∈ns→M≤a)→Q (.int M t') { s with heap:=h',toks:=tk }):wpAny (model prog w) A (call (.builtin "min") [.ref l]) Q E s:=by
 obtain ⟨xs,e⟩:=hi.allInts.items
 have hn:numsOf (intItems xs).toList=ns:=by rw [←e];exact hi.numsOf
 rw [nums_intItems] at hn
 subst hn
 rw [e] at hl
 have hsz:0 < xs.size:=by simpa using hne
 refine PySem.min_intList hh hl hsz fun v h' tk hv hk=>?_
 obtain ⟨t,rfl⟩:=intItems_at hv
 obtain ⟨h1,h2⟩:=argBest_lt (numAt xs) (xs.size-1)
 refine h h' tk _ t hk ?_ fun a ha=>?_
 ·rw [numAt_eq];exact PySem.getD_mem (by rw [zlm,Array.length_toList];lia)
 ·obtain ⟨j,hj,rfl⟩:=mem_getD ha
  rw [zlm,Array.length_toList] at hj
  rw [←numAt_eq];exact h2 j (by lia)
end
section
variable {X:Cx}
inductive rSum (K:Fg) (vs:List V) (H:Hp) (Q:VK):Prop
 | mk (a:Addr) (ns:List Int) (_:vs=[V.ref a]) (_:SqL K H a (ns.map V.int)) (_:Q (.int ns.sum) H):rSum K vs H Q
inductive rMax (K:Fg) (vs:List V) (H:Hp) (Q:VK):Prop
 | mk (a:Addr) (ns:List Int) (_:vs=[V.ref a]) (_:SqL K H a (ns.map V.int)) (_:0 < ns.length) (_:∀m,m∈ns→(∀y,y∈ns→y≤m)→Q (.int m) H):rMax K vs H Q
inductive rMin (K:Fg) (vs:List V) (H:Hp) (Q:VK):Prop
 | mk (a:Addr) (ns:List Int) (_:vs=[V.ref a]) (_:SqL K H a (ns.map V.int)) (_:0 < ns.length) (_:∀m,m∈ns→(∀y,y∈ns→m≤y)→Q (.int m) H):rMin K vs H Q
theorem z4C (hc:X.calm=true):k9 X (.builtin "sum") (rSum X.K):=by
 intro pins s σ H vs us Q I r h
 obtain ⟨a,ns,rfl,hs,q⟩:=h
 obtain ⟨its,rv,hl,_⟩:=I.list hs
 rw [Vals.ref1 r]
 exact z3U (I.ok.hd hc) hl.isList rv.ints fun h' tk t' hk=>⟨.int _,H,I.kept hk,⟨_,rfl⟩,q⟩
theorem z4i (hc:X.calm=true):k9 X (.builtin "max") (rMax X.K):=by
 intro pins s σ H vs us Q I r h
 obtain ⟨a,ns,rfl,hs,hne,q⟩:=h
 obtain ⟨its,rv,hl,_⟩:=I.list hs
 rw [Vals.ref1 r]
 exact z3Y (I.ok.hd hc) hl.isList rv.ints hne fun h' tk m t' hk h1 h2=>⟨.int _,H,I.kept hk,⟨_,rfl⟩,q m h1 h2⟩
theorem z49 (hc:X.calm=true):k9 X (.builtin "min") (rMin X.K):=by
 intro pins s σ H vs us Q I r h
 obtain ⟨a,ns,rfl,hs,hne,q⟩:=h
 obtain ⟨its,rv,hl,_⟩:=I.list hs
 rw [Vals.ref1 r]
 exact z3W (I.ok.hd hc) hl.isList rv.ints hne fun h' tk m t' hk h1 h2=>⟨.int _,H,I.kept hk,⟨_,rfl⟩,q m h1 h2⟩
end
section
variable {X:Cx}
inductive z1F (K:Fg) (x:V) (xs:List V) (H:Hp) (Q:VK):Prop
 | mk (a:Addr) (ys:List V) (y:V) (j:Nat) (z:V) (_:x=V.ref a) (_:xs=[y]) (_:SqL K H a ys) (_:zVB y=true) (_:ys.all zVB=true) (_:ys[j]?=some z) (_:eqV z y=true) (_:(∀(m:Nat) (z':V),m < j→ys[m]?=some z'→eqV z' y=false)) (_:Q (.int (j:Nat)) H):z1F K x xs H Q
theorem z1G {ys:List V} (f:ys.all zVB=true) {j:Nat}{z:V} (h:ys[j]?=some z):zVB z=true:=List.all_eq_true.mp f z (List.mem_of_getElem? h)
theorem z2j:MtR X "list.index" (z1F X.K):=by
 intro pins s σ H x xs v us Q I rx rxs h
 obtain ⟨a,ys,y,j,z,rfl,rfl,hs,fy,fys,hz,hzj,hno,q⟩:=h
 cases rx
 cases rxs with
 | cons ry rt=>
  rename_i uy ut
  cases rt
  obtain ⟨its,rv,⟨⟨cls,dd,data,sl⟩,n,ho,hc,hdn,hd⟩,hlen⟩:=I.list hs
  simp only at hc hd
  subst hc hd
  obtain ⟨u,hu,ru⟩:=rv.get hz
  obtain ⟨hjl,hje⟩:=List.getElem?_eq_some_iff.mp hu
  have hvl:=rv.length
  have hj:j < its.toArray.size:=by simpa using hjl
  have hsl:=sizeLine_eq
  refine call_meets PySem.F.slot_list_index ⟨_,ho,rfl⟩ PySem.F.entry_list_index (PySem.F.args_list_index_2 _ _)
   (SeqAt.list_indexAt a its.toArray n dd sl uy (eqU y) j hj (by lia) ?_ ?_) ⟨ho,fun u' hu'=>zVL ry fy rv fys u' (by simpa using hu'),?_⟩
  ·have e1:its.toArray[j]=u:=by simpa using hje
   rw [e1,zQB ru (z1G fys hz)]
   exact hzj
  ·intro m hm hmj
   have hml:m < its.length:=by simpa using hm
   have hmy:m < ys.length:=by lia
   have hy':ys[m]?=some ys[m]:=zge hmy
   obtain ⟨u2,hu2,ru2⟩:=rv.get hy'
   obtain ⟨_,hme⟩:=List.getElem?_eq_some_iff.mp hu2
   have e1:its.toArray[m]=u2:=by simpa using hme
   rw [e1,zQB ru2 (z1G fys hy')]
   exact hno m _ hmj hy'
  ·exact ⟨.int (j:Nat),H,I.tok _,⟨_,rfl⟩,q⟩
end
section
variable {X:Cx}
end
theorem zR3 {prog:Program}{w:World}{A:Around}{E:Value→Shared→Prop}{s:Shared}{l:Addr}{items:Array Value}{Q:Value→Shared→Prop} (hl:s.heap.IsList l items)
  (h:∀s₂:Shared,s₂={ s with heap:=s.heap.push { cls:=.type "list_iterator", data:=.fields #[.ref l,.int 0 0] } }→
   (s₂.heap.IsListIter s.heap.objs.size l 0∧s₂.heap.IsList l items)→l≠s.heap.objs.size→Q (.ref s.heap.objs.size) s₂):wpAny (model prog w) A (pyIter (.ref l)) Q E s:=by
 have hlt:l < s.heap.objs.size:=by obtain ⟨_,e,_⟩:=hl;exact Heap.lt_size e
 exact wpAny_pyIter_list hl (h _ rfl ⟨⟨_,Heap.get?_push_size _ rfl,rfl,rfl⟩,hl.push _⟩ (Nat.ne_of_lt hlt))
theorem zUL {prog:Program}{w:World}{A:Around}{bs:List Bool}{its:List Value} (e:its=bs.map Value.bool):
  TruthOf prog w A (fun i v=>its.toArray[i]?=some v) (fun i=>bs.getD i false):=fun i v s Q E hv hq=>by
 have hv':its[i]?=some v:=by simpa using hv
 rw [e,zgm] at hv'
 obtain ⟨b,hb,rfl⟩:=Option.map_eq_some_iff.mp hv'
 have hg:bs.getD i false=b:=by rw [List.getD_eq_getElem?_getD,hb]<;>rfl
 have hq':Q (bs.getD i false) s:=hq
 rw [hg] at hq'
 exact wpAny_truthy_bool hq'
theorem any_range:∀bs:List Bool,(List.range bs.length).any (fun i=>bs.getD i false)=bs.any id
 | []=>rfl
 | b::bs=>by
  rw [zlc,List.range_succ_eq_map,List.any_cons,List.any_map,List.any_cons,←any_range bs]
  all_goals rfl
theorem all_range:∀bs:List Bool,(List.range bs.length).all (fun i=>bs.getD i false)=bs.all id
 | []=>rfl
 | b::bs=>by
  rw [zlc,List.range_succ_eq_map,List.all_cons,List.all_map,List.all_cons,←all_range bs]
  all_goals rfl
section
variable {X:Cx}
inductive rAny (K:Fg) (vs:List V) (H:Hp) (Q:VK):Prop
 | mk (a:Addr) (bs:List Bool) (_:vs=[V.ref a]) (_:SqL K H a (bs.map V.bl)) (_:Q (.bl (bs.any id)) H):rAny K vs H Q
inductive rAll (K:Fg) (vs:List V) (H:Hp) (Q:VK):Prop
 | mk (a:Addr) (bs:List Bool) (_:vs=[V.ref a]) (_:SqL K H a (bs.map V.bl)) (_:Q (.bl (bs.all id)) H):rAll K vs H Q
theorem z4P (hc:X.calm=true):k9 X (.builtin "any") (rAny X.K):=by
 intro pins s σ H vs us Q I r h
 obtain ⟨a,bs,rfl,hs,q⟩:=h
 obtain ⟨its,rv,hl,_⟩:=I.list hs
 rw [Vals.ref1 r]
 have hb:=rv.bls
 refine call_any_walk (zR3 hl.isList fun s₂ e2 st hne=>?_)
 subst e2
 refine ⟨_,_,_,_,_,_,_,rfl,Walks.list (A:=X.A.in1) (I.ok.hd hc) _ a hne its.toArray,st,zUL hb,fun h' tk hk=>?_⟩
 refine ⟨.bl _,H,I.kept fun b o eo=>hk b o (fun hmem=>?_) (Heap.get?_push_of_some _ eo),?_,q⟩
 ·rcases List.mem_cons.mp hmem with e1|hmem
  ·exact absurd (e1 ▸ Heap.lt_size eo) (Nat.lt_irrefl _)
  ·cases hmem
 ·show Value.bool _=Value.bool _
  rw [←any_range,hb,List.size_toArray,zlm]
theorem z4V (hc:X.calm=true):k9 X (.builtin "all") (rAll X.K):=by
 intro pins s σ H vs us Q I r h
 obtain ⟨a,bs,rfl,hs,q⟩:=h
 obtain ⟨its,rv,hl,_⟩:=I.list hs
 rw [Vals.ref1 r]
 have hb:=rv.bls
 refine call_all_walk (zR3 hl.isList fun s₂ e2 st hne=>?_)
 subst e2
 refine ⟨_,_,_,_,_,_,_,rfl,Walks.list (A:=X.A.in1) (I.ok.hd hc) _ a hne its.toArray,st,zUL hb,fun h' tk hk=>?_⟩
 refine ⟨.bl _,H,I.kept fun b o eo=>hk b o (fun hmem=>?_) (Heap.get?_push_of_some _ eo),?_,q⟩
 ·rcases List.mem_cons.mp hmem with e1|hmem
  ·exact absurd (e1 ▸ Heap.lt_size eo) (Nat.lt_irrefl _)
  ·cases hmem
 ·show Value.bool _=Value.bool _
  rw [←all_range,hb,List.size_toArray,zlm]
end
mutual
inductive Dp (K:Fg) (H:Hp):V→PyData→Prop
 | non:Dp K H .non .none
 | bl (b:Bool):Dp K H (.bl b) (.bool b)
 | int (i:Int):Dp K H (.int i) (.int i)
 | str (x:Str):Dp K H (.str x) (.str x)
 | lst {a:Addr}{xs:List V}{ds:List PyData}:SqL K H a xs→zQJ K H xs ds→Dp K H (.ref a) (.list ds)
 | tup {a:Addr}{xs:List V}{ds:List PyData}:SqT K H a xs→zQJ K H xs ds→Dp K H (.ref a) (.tuple ds)
inductive zQJ (K:Fg) (H:Hp):List V→List PyData→Prop
 | nil:zQJ K H [] []
 | cons {v:V}{vs:List V}{d:PyData}{ds:List PyData}:Dp K H v d→zQJ K H vs ds→zQJ K H (v::vs) (d::ds)
end
section
variable {X:Cx}{pins:List (Addr×Obj)}{σ:St}{H:Hp}{s:Shared}
mutual
theorem Dp.reads (I:Inv X pins σ H s):∀(d:PyData) (v:V) (u:Value),Dp X.K H v d→RelV v u→∃as,Reads s.heap u d as
 | .none,_,_,h,r=>by
  cases h
  cases r
  exact ⟨_,Reads.none⟩
 | .bool b,_,_,h,r=>by
  cases h
  cases r
  exact ⟨_,Reads.bool b⟩
 | .int i,_,_,h,r=>by
  cases h
  obtain ⟨t,rfl⟩:=r
  exact ⟨_,Reads.int i t⟩
 | .str x,_,_,h,r=>by
  cases h
  obtain ⟨t,rfl⟩:=r
  exact ⟨_,Reads.str x t⟩
 | .list ds,_,_,h,r=>by
  cases h with
  | lst hs ha=>
   cases r
   obtain ⟨its,rv,⟨o,n,ho,hc,_,hd⟩,_⟩:=I.list hs
   obtain ⟨as,hr⟩:=Dp.readsAll I ds _ its ha rv
   exact ⟨_,Reads.list ho hc hd hr⟩
 | .tuple ds,_,_,h,r=>by
  cases h with
  | tup hs ha=>
   cases r
   obtain ⟨its,rv,⟨o,ho,hc,n,hd⟩,_⟩:=I.tuple hs
   obtain ⟨as,hr⟩:=Dp.readsAll I ds _ its ha rv
   exact ⟨_,Reads.tuple ho hc hd hr⟩
 | .dict _,_,_,h,_=>by cases h
theorem Dp.readsAll (I:Inv X pins σ H s):∀(ds:List PyData) (vs:List V) (us:List Value),zQJ X.K H vs ds→Vals vs us→∃as,ReadsAll s.heap us ds as
 | [],_,_,h,r=>by
  cases h
  cases r
  exact ⟨_,ReadsAll.nil⟩
 | d::ds,_,_,h,r=>by
  cases h with
  | cons h1 h2=>
   cases r with
   | cons r1 r2=>
    obtain ⟨as,q1⟩:=Dp.reads I d _ _ h1 r1
    obtain ⟨bs,q2⟩:=Dp.readsAll I ds _ _ h2 r2
    exact ⟨_,ReadsAll.cons q1 q2⟩
end
end
section
variable {X:Cx}
inductive rEqD (K:Fg) (x:V) (y:V) (H:Hp) (Q:VK):Prop
 | mk (d:_) (e:_) (_:Dp K H x d) (_:Dp K H y e) (_:SeqAt.shaped d=true) (_:SeqAt.shaped e=true) (_:Q (.bl (PyData.eqv d e)) H):rEqD K x y H Q
inductive rNeD (K:Fg) (x:V) (y:V) (H:Hp) (Q:VK):Prop
 | mk (d:_) (e:_) (_:Dp K H x d) (_:Dp K H y e) (_:SeqAt.shaped d=true) (_:SeqAt.shaped e=true) (_:Q (.bl (!PyData.eqv d e)) H):rNeD K x y H Q
theorem z4h (hu:X.A.units+64 < cLine):OpR X (compareOp .Eq) (rEqD X.K):=by
 intro pins s σ H x y v u Q I rx ry h
 obtain ⟨d,e,hd,he,sd,se,q⟩:=h
 obtain ⟨as,r1⟩:=Dp.reads I d x v hd rx
 obtain ⟨bs,r2⟩:=Dp.reads I e y u he ry
 exact SeqAt.compareEq_shaped r1 r2 sd se hu ⟨.bl _,H,I,rfl,q⟩
theorem zRX (hu:X.A.units+64 < cLine):OpR X (compareOp .NotEq) (rNeD X.K):=by
 intro pins s σ H x y v u Q I rx ry h
 obtain ⟨d,e,hd,he,sd,se,q⟩:=h
 obtain ⟨as,r1⟩:=Dp.reads I d x v hd rx
 obtain ⟨bs,r2⟩:=Dp.reads I e y u he ry
 exact SeqAt.compareNe_shaped r1 r2 sd se hu ⟨.bl _,H,I,rfl,q⟩
end
open PySem PySem.Spec PyProof.Rows
abbrev z2Q (h:Heap) (c:Addr) (v:Option Value):Prop:=h.IsCell c v
def relS (scope sc:Scope):Scope:=
 { scope with names:=scope.names.map fun (n,k)=>if (k == .free && sc.kind == .function && sc.names.lookup n == some .cell) then (n,.cell) else (n,k) }
def x5 (cells:List (Str×Addr)):List (Str×NameKind)→List (Str×Addr)→List (Str×Addr)
 | [],acc=>acc
 | (n,k)::r,acc=>if k == .free then x5 cells r ((n,(cells.lookup n).getD 0)::acc) else x5 cells r acc
theorem zVt (env:Env) (f:Str×NameKind→List (Str×Addr)→Sem (ForInStep (List (Str×Addr))))
  (hf:∀n k c,f (n,k) c=if k == .free then (do let a ←cellOf env n;pure (.yield ((n,a)::c))) else pure (.yield c)):
  ∀(names:List (Str×NameKind)) (acc:List (Str×Addr)),(∀y∈names,y.2=.free→∃c,env.cells.lookup y.1=some c)→forIn names acc f=pure (x5 env.cells names acc)
 | [],acc,_=>by rw [List.forIn_nil];rfl
 | (n,k)::r,acc,h=>by
  rw [List.forIn_cons,hf]
  have ih:=fun acc=>zVt env f hf r acc fun y hy=>h y (zmc _ hy)
  unfold x5
  by_cases hk:(k == NameKind.free)=true
  ·rw [if_pos hk,if_pos hk]
   obtain ⟨c,hc⟩:=h (n,k) List.mem_cons_self (by simpa using hk)
   have e:cellOf env n=pure c:=by unfold cellOf;rw [hc]
   rw [e]
   have e2:(env.cells.lookup n).getD 0=c:=by rw [hc];rfl
   rw [e2]
   exact ih _
  ·rw [if_neg hk,if_neg hk]
   exact ih _
theorem zQ4 {scope:Scope}{env:Env} (h:∀y∈scope.names,y.2=.free→∃c,env.cells.lookup y.1=some c):closureFor scope env=pure (x5 env.cells scope.names []):=by
 simp only [closureFor]
 rw [zVt env _ (fun n k c=>rfl) scope.names [] h]
 rfl
theorem mem_lookup {α:Type}:∀{l:List (Str×α)}{n:Str}{c:α},(n,c)∈l→∃c',l.lookup n=some c'
 | (k,v)::r,n,c,h=>by
  rw [List.lookup_cons]
  cases hb:n == k with
  | true=>exact ⟨_,rfl⟩
  | false=>
   rcases List.mem_cons.mp h with e|h
   ·cases e;simp at hb
   ·exact mem_lookup h
theorem zYo {cells:List (Str×Addr)}:∀{names:List (Str×NameKind)}{acc:List (Str×Addr)}{n:Str}{c:Addr},(n,c)∈x5 cells names acc→(n,c)∈acc∨((n,.free)∈names∧c=(cells.lookup n).getD 0)
 | [],_,_,_,h=>.inl h
 | (m,k)::r,acc,n,c,h=>by
  unfold x5 at h
  split at h
  ·rename_i hk
   have hk:k=.free:=by simpa using hk
   rcases zYo h with h|⟨h1,h2⟩
   ·rcases List.mem_cons.mp h with e|h
    ·cases e;exact .inr ⟨hk ▸ List.mem_cons_self,rfl⟩
    ·exact .inl h
   ·exact .inr ⟨zmc _ h1,h2⟩
  ·rcases zYo h with h|⟨h1,h2⟩
   ·exact .inl h
   ·exact .inr ⟨zmc _ h1,h2⟩
theorem zXI {cells:List (Str×Addr)}:∀{names:List (Str×NameKind)}{acc:List (Str×Addr)}{p:Str×Addr},p∈acc→p∈x5 cells names acc
 | [],_,_,h=>h
 | (m,k)::r,acc,p,h=>by
  unfold x5
  split
  ·exact zXI (zmc _ h)
  ·exact zXI h
theorem zXH {cells:List (Str×Addr)}:∀{names:List (Str×NameKind)}{acc:List (Str×Addr)}{n:Str},(n,.free)∈names→(n,(cells.lookup n).getD 0)∈x5 cells names acc
 | (m,k)::r,acc,n,h=>by
  unfold x5
  rcases List.mem_cons.mp h with e|h
  ·cases e
   exact zXI List.mem_cons_self
  ·split
   ·exact zXH h
   ·exact zXH h
theorem zYQ:∀{names:List (Str×NameKind)}{h:Heap}{acc:List (Str×Addr)}{x:Str}{c:Addr},(x,c)∈cellsFrom h.objs.size names acc→
  (x,c)∈acc∨((x,.cell)∈names∧h.objs.size≤c∧z2Q (pushCells h names) c none)
 | [],_,_,_,_,h=>.inl h
 | (n,k)::r,h,acc,x,c,hm=>by
  unfold cellsFrom at hm
  unfold pushCells
  split at hm
  ·rename_i hk
   rw [if_pos hk]
   have hk:k=.cell:=by simpa using hk
   rw [←Heap.size_push h { cls:=.type "cell", data:=.cell none }] at hm
   rcases zYQ hm with hm|⟨h1,h2,h3⟩
   ·rcases List.mem_cons.mp hm with e|hm
    ·cases e
     exact .inr ⟨hk ▸ List.mem_cons_self,Nat.le_refl _,_,pushCells_keeps r _ _ _ (Heap.get?_push_size _ rfl),rfl⟩
    ·exact .inl hm
   ·rw [Heap.size_push] at h2
    exact .inr ⟨zmc _ h1,Nat.le_of_succ_le h2,h3⟩
  ·rename_i hk
   rw [if_neg hk]
   rcases zYQ hm with hm|⟨h1,h2,h3⟩
   ·exact .inl hm
   ·exact .inr ⟨zmc _ h1,h2,h3⟩
theorem zWB:∀{names:List (Str×NameKind)}{n:Nat}{acc:List (Str×Addr)}{p:Str×Addr},p∈acc→p∈cellsFrom n names acc
 | [],_,_,_,h=>h
 | (m,k)::r,n,acc,p,h=>by
  unfold cellsFrom
  split
  ·exact zWB (zmc _ h)
  ·exact zWB h
theorem zV9:∀{names:List (Str×NameKind)}{n:Nat}{acc:List (Str×Addr)}{x:Str},(x,.cell)∈names→∃c,(x,c)∈cellsFrom n names acc
 | (m,k)::r,n,acc,x,h=>by
  unfold cellsFrom
  rcases List.mem_cons.mp h with e|h
  ·cases e
   exact ⟨n,zWB List.mem_cons_self⟩
  ·split
   ·exact zV9 h
   ·exact zV9 h
theorem zUN:∀{names:List (Str×NameKind)}{h:Heap}{acc:List (Str×Addr)}{x y:Str}{c:Addr},(∀p∈acc,p.2 < h.objs.size)→(∀x y c,(x,c)∈acc→(y,c)∈acc→x=y)→
  (x,c)∈cellsFrom h.objs.size names acc→(y,c)∈cellsFrom h.objs.size names acc→x=y
 | [],_,_,_,_,_,_,hi,h1,h2=>hi _ _ _ h1 h2
 | (n,k)::r,h,acc,x,y,c,hl,hi,h1,h2=>by
  unfold cellsFrom at h1 h2
  split at h1
  ·rename_i hk
   rw [if_pos hk] at h2
   rw [←Heap.size_push h { cls:=.type "cell", data:=.cell none }] at h1 h2
   refine zUN (h:=h.push _) (fun p hp=>?_) (fun x y c a b=>?_) h1 h2
   ·rw [Heap.size_push]
    rcases List.mem_cons.mp hp with rfl|hp
    ·exact Nat.lt_succ_self _
    ·exact Nat.lt_succ_of_lt (hl p hp)
   ·rcases List.mem_cons.mp a with e|a<;>rcases List.mem_cons.mp b with e'|b
    ·cases e;cases e';rfl
    ·cases e;exact absurd (hl _ b) (Nat.lt_irrefl _)
    ·cases e';exact absurd (hl _ a) (Nat.lt_irrefl _)
    ·exact hi _ _ _ a b
  ·rename_i hk
   rw [if_neg hk] at h2
   exact zUN hl hi h1 h2
theorem zRv {M:Model}{A:Around}{E:Value→Shared→Prop}{s:Shared}{scope:Scope}{globals:Addr}{closure:List (Str×Addr)}{qual:Str}{func:Option Addr}{code:Value}{around:Env}{builtins:Addr}{Q:Env→Shared→Prop}
  (h:Q (newEnv scope s.heap.objs.size globals (cellsFrom (s.heap.objs.size+1) scope.names closure) qual func code (some around) builtins)
   { s with heap:=pushCells (s.heap.push { cls:=.type "dict", data:=.dict #[] }) scope.names }):
  wpAny M A (newFunctionEnv scope globals closure [] qual func code (some around) builtins) Q E s:=by
 simp only [newFunctionEnv,Option.isSome_some,if_true]
 refine wpAny_bind (wpAny_alloc ?_)
 refine wpAny_bind (wpAny_layCells _ (fun n k c=>rfl) scope.names closure _ _ ?_)
 rw [show ({ s with heap:=s.heap.push { cls:=.type "dict", data:=.dict #[] } }:Shared).heap.objs.size=s.heap.objs.size+1 from Heap.size_push ..]
 rw [List.forIn_nil]
 exact wpAny_bind (wpAny_pure (wpAny_pure h))
theorem zXW {sc:Scope}:∀{names:List (Str×NameKind)}{x:Str}{k:NameKind},
  (names.map fun (n,k)=>if (k == NameKind.free && sc.kind == .function && sc.names.lookup n == some .cell) then (n,NameKind.cell) else (n,k)).lookup x=some k→
  ∃k',names.lookup x=some k'∧(k=k'∨(k'=.free∧k=.cell))
 | [],_,_,h=>by simp at h
 | (n,k₀)::r,x,k,h=>by
  have ih:=@zXW sc r x k
  have h':List.lookup x ((if (k₀ == NameKind.free && sc.kind == .function && sc.names.lookup n == some .cell)=true then (n,NameKind.cell) else (n,k₀))::(r.map _))=some k:=h
  cases hx:x == n with
  | true=>
   simp only [List.lookup_cons,hx]
   by_cases hc:(k₀ == NameKind.free && sc.kind == .function && sc.names.lookup n == some .cell)=true
   ·rw [if_pos hc] at h'
    simp only [List.lookup_cons,hx] at h'
    cases h'
    simp only [zbt,beq_iff_eq] at hc
    exact ⟨k₀,rfl,.inr ⟨hc.1.1,rfl⟩⟩
   ·rw [if_neg hc] at h'
    simp only [List.lookup_cons,hx] at h'
    cases h'
    exact ⟨_,rfl,.inl rfl⟩
  | false=>
   simp only [List.lookup_cons,hx]
   by_cases hc:(k₀ == NameKind.free && sc.kind == .function && sc.names.lookup n == some .cell)=true
   ·rw [if_pos hc] at h'
    simp only [List.lookup_cons,hx] at h'
    exact ih h'
   ·rw [if_neg hc] at h'
    simp only [List.lookup_cons,hx] at h'
    exact ih h'
structure z0F (N:List Str) (sc scope:Scope) (own:List (Str×Nat)):Prop where
 kind:scope.kind=.function
 uniq:∀y∈scope.names,scope.names.lookup y.1=some y.2
 ix:∀p∈own,N[p.2]?=some p.1
 free:∀y∈scope.names,y.2=.free→sc.names.lookup y.1=some .cell∨sc.names.lookup y.1=some .free
 own:∀y∈scope.names,y.2=.local∨y.2=.cell→y.1∈own.map (·.1)∨y.1∉N
def wipe (σ:St):List Nat→St
 | []=>σ
 | v::vs=>(wipe σ vs).set v none
theorem zXT (σ:St):∀vs:List Nat,(wipe σ vs).length=σ.length
 | []=>rfl
 | v::vs=>by unfold wipe;rw [List.length_set,zXT σ vs]
theorem zUC {σ:St}{i:Nat}{x:V}:∀{vs:List Nat},(wipe σ vs)[i]?=some (some x)→σ[i]?=some (some x)∧i∉vs
 | [],h=>⟨h,by simp⟩
 | v::vs,h=>by
  unfold wipe at h
  by_cases hi:v=i
  ·subst hi
   by_cases hv:v < (wipe σ vs).length
   ·rw [List.getElem?_set_self hv] at h;cases h
   ·rw [List.getElem?_eq_none (by simpa using hv)] at h;cases h
  ·rw [List.getElem?_set_ne hi] at h
   obtain ⟨h1,h2⟩:=zUC h
   exact ⟨h1,by simp only [List.mem_cons,not_or];exact ⟨fun e=>hi e.symm,h2⟩⟩
abbrev Cx.blk (X:Cx) (s:Shared) (H:Hp) (scope:Scope) (cenv:Env) (fp:List Addr):Cx:={ X with s_0:=s,H_0:=H,env:=cenv,outer:=X.stack,ex:=fp,fn:=fun x=>scope.names.lookup x == some .cell,pn:=[],xe:=fun _ _=>False }
section
variable {X:Cx}{pins:List (Addr×Obj)}{σ:St}{H:Hp}{s:Shared}
theorem zRF {scope:Scope}{own:List (Str×Nat)}{fp:List Addr} (I:Inv X pins σ H s) (ok:z0F X.N X.env.scope scope own) (hN:X.N.Nodup) (hfp:∀b∈fp,FpOk X pins H b∧b < s.heap.objs.size):
  Inv (X.blk s H scope (compEnvC scope (cellsFrom (s.heap.objs.size+1) scope.names (x5 X.env.cells scope.names [])) s.heap.objs.size X.env) fp) [] (wipe σ (own.map (·.2))) H { s with heap:=pushCells (s.heap.push { cls:=.type "dict", data:=.dict #[] }) scope.names }:=by
 have hfree:∀y∈scope.names,y.2=.free→∃c,X.env.cells.lookup y.1=some c:=fun y hy e=>by
  rcases ok.free y hy e with k|k
  ·exact I.ok.has _ (.inl k)
  ·exact I.ok.has _ (.inr k)
 generalize hcenv:compEnvC scope (cellsFrom (s.heap.objs.size+1) scope.names (x5 X.env.cells scope.names [])) s.heap.objs.size X.env=cenv
 have kp:∀b o,s.heap.get? b=some o→(pushCells (s.heap.push { cls:=.type "dict", data:=.dict #[] }) scope.names).get? b=some o:=fun b o e=>pushCells_keeps _ _ _ _ (Heap.get?_push_of_some _ e)
 have hL:cenv.locals=s.heap.objs.size:=by rw [←hcenv];rfl
 have hcl:cenv.cells=cellsFrom (s.heap.objs.size+1) scope.names (x5 X.env.cells scope.names []):=by rw [←hcenv];rfl
 have hsc:cenv.scope=relS scope X.env.scope:=by rw [←hcenv];rfl
 rw [←Heap.size_push s.heap { cls:=.type "dict", data:=.dict #[] }] at hcl
 have cm:∀{y c},(y,c)∈x5 X.env.cells scope.names []→X.env.cells.lookup y=some c∧c < s.heap.objs.size:=fun {y c} hm=>by
  rcases zYo hm with hm|⟨h1,rfl⟩
  ·cases hm
  ·obtain ⟨c,hc⟩:=hfree _ h1 rfl
   rw [hc]
   obtain ⟨w,z⟩:=I.cell _ _ hc
   exact ⟨rfl,z.lt⟩
 have mem:∀{y c},cenv.cells.lookup y=some c→(X.env.cells.lookup y=some c∧c < s.heap.objs.size)∨(s.heap.objs.size+1≤c∧z2Q (pushCells (s.heap.push { cls:=.type "dict", data:=.dict #[] }) scope.names) c none):=fun {y c} e=>by
  rw [hcl] at e
  rcases zYQ (PySem.mem_of_lookup e) with hm|⟨_,h2,h3⟩
  ·exact .inl (cm hm)
  ·rw [Heap.size_push] at h2;exact .inr ⟨h2,h3⟩
 have look:∀{y},scope.names.lookup y=some .free→∃c,cenv.cells.lookup y=some c∧X.env.cells.lookup y=some c:=fun {y} hl=>by
  have hy:(y,NameKind.free)∈scope.names:=PySem.mem_of_lookup hl
  obtain ⟨c',e'⟩:=mem_lookup (zWB (names:=scope.names) (n:=(s.heap.push { cls:=.type "dict", data:=.dict #[] }).objs.size) (zXH (cells:=X.env.cells) (acc:=[]) hy))
  rw [←hcl] at e'
  refine ⟨c',e',?_⟩
  rw [hcl] at e'
  rcases zYQ (PySem.mem_of_lookup e') with hm|⟨h1,_,_⟩
  ·exact (cm hm).1
  ·have:=ok.uniq _ h1
   rw [hl] at this;cases this
 have okB:(X.blk s H scope cenv fp).Ok:=by
  refine ⟨I.ok.mod,by show cenv.scope.kind=_;rw [hsc];exact ok.kind,by show cenv.globals=_;rw [←hcenv];exact I.ok.glob,by show cenv.builtins=_;rw [←hcenv];exact I.ok.blt,by show s.heap.objs.size≤cenv.locals;rw [hL];exact Nat.le_refl _,
   fun y z c e1 e2=>?_,fun y hy=>?_,fun y c z e=>?_,I.ok.hd,I.ok.frames,.inl rfl,fun b hb=>⟨?_,fun y c e z=>?_⟩,I.bs,Nat.le_trans I.ok.bsz I.sz,fun b o e hb=>?_,fun b hb z=>?_,I.stack,I.stkFree⟩
  ·have e1:cenv.cells.lookup y=some c:=e1
   have e2:cenv.cells.lookup z=some c:=e2
   rw [hcl] at e1 e2
   refine zUN (fun p hp=>?_) (fun y z c a b=>I.ok.inj y z c (cm a).1 (cm b).1) (PySem.mem_of_lookup e1) (PySem.mem_of_lookup e2)
   rw [Heap.size_push]
   exact Nat.lt_succ_of_lt (cm (y:=p.1) (c:=p.2) hp).2
  ·show ∃c,cenv.cells.lookup y=some c
   have key:∀k,cenv.kindOf y=some k→(k=.cell∨k=.free)→∃c,cenv.cells.lookup y=some c:=fun k hk hk'=>by
    unfold Env.kindOf at hk
    rw [hsc] at hk
    obtain ⟨k',e,r⟩:=zXW hk
    have:k'=.cell∨k'=.free:=by
     rcases r with rfl|⟨rfl,_⟩
     ·exact hk'
     ·exact .inr rfl
    rcases this with rfl|rfl
    ·obtain ⟨c,hm⟩:=zV9 (n:=(s.heap.push { cls:=.type "dict", data:=.dict #[] }).objs.size) (acc:=x5 X.env.cells scope.names []) (PySem.mem_of_lookup e)
     obtain ⟨c',e'⟩:=mem_lookup hm
     exact ⟨c',by rw [hcl];exact e'⟩
    ·obtain ⟨c,h1,_⟩:=look e
     exact ⟨c,h1⟩
   rcases hy with hy|hy
   ·exact key _ hy (.inl rfl)
   ·exact key _ hy (.inr rfl)
  ·have z:(scope.names.lookup y == some NameKind.cell)=true:=z
   have z:scope.names.lookup y=some .cell:=by simpa using z
   have e:cenv.cells.lookup y=some c:=e
   rw [hcl] at e
   rcases zYQ (PySem.mem_of_lookup e) with hm|⟨_,h2,_⟩
   ·rcases zYo hm with hm|⟨h1,_⟩
    ·cases hm
    ·have q:=ok.uniq _ h1
     rw [z] at q;cases q
   ·rw [Heap.size_push] at h2
    exact Nat.le_of_succ_le h2
  ·show b≠cenv.locals
   rw [hL];exact Nat.ne_of_lt (hfp b hb).2
  ·have e:cenv.cells.lookup y=some c:=e
   rcases mem e with ⟨h1,_⟩|⟨h1,_⟩
   ·exact (hfp b hb).1.2.2.2.2.1 y c h1 z
   ·have h2:s.heap.objs.size+1≤b:=by rw [←z];exact h1
    exact absurd (Nat.lt_of_lt_of_le (hfp b hb).2 (Nat.le_of_succ_le h2)) (Nat.lt_irrefl _)
  ·rcases (hfp b hb).1.2.2.2.1 with z|z
   ·exact I.ok.noex b o e z
   ·exact absurd (Nat.lt_of_lt_of_le (Heap.lt_size e) (Nat.le_trans I.ok.bsz z)) (Nat.lt_irrefl _)
  ·rcases List.mem_cons.mp (I.stkSub b z) with z|z
   ·exact (hfp b hb).1.2.1 z
   ·exact (hfp b hb).1.2.2.1 z
 refine ⟨okB,rfl,I.bare,Un.kept kp,⟨fun _=>none,?_,fun i y av e1 e2 e3=>?_⟩,fun y c e=>?_,?_,fun y c e=>?_,fun p hp=>?_,I.hok.kept kp,by rw [zXT];exact I.len⟩
 ·show Heap.Ns _ cenv.locals _
  rw [hL]
  exact Heap.Ns.keeps (Heap.Ns.new ..) fun b o e=>pushCells_keeps _ _ _ _ e
 ·obtain ⟨e2,hne⟩:=zUC e2
  have hfr:scope.names.lookup y=some .free∧(cenv.kindOf y=some .cell∨cenv.kindOf y=some .free):=by
   have key:∀k,cenv.scope.names.lookup y=some k→k=.local∨k=.cell∨k=.free→scope.names.lookup y=some .free∧(cenv.kindOf y=some .cell∨cenv.kindOf y=some .free):=fun k hk hk'=>by
    have hk0:=hk
    rw [hsc] at hk
    obtain ⟨k',e,r⟩:=zXW hk
    have no:¬(k'=.local∨k'=.cell):=fun hh=>by
     rcases ok.own _ (PySem.mem_of_lookup e) hh with e'|e'
     ·obtain ⟨p,hp,hpy⟩:=List.mem_map.mp e'
      have e3:=ok.ix p hp
      have:p.1=y:=hpy
      rw [this] at e3
      exact hne (List.mem_map.mpr ⟨p,hp,zT3 hN e3 e1⟩)
     ·exact e' (List.mem_of_getElem? e1)
    rcases r with rfl|⟨rfl,rfl⟩
    ·rcases hk' with rfl|rfl|rfl
     ·exact absurd (.inl rfl) no
     ·exact absurd (.inr rfl) no
     ·exact ⟨e,.inr hk0⟩
    ·exact ⟨e,.inl hk0⟩
   have e3:Vis cenv.scope y:=e3
   rcases e3 with e3|e3|e3
   ·exact key _ e3 (.inl rfl)
   ·exact key _ e3 (.inr (.inl rfl))
   ·exact key _ e3 (.inr (.inr rfl))
  obtain ⟨m,hn,hl⟩:=I.loc
  have hvis:Vis X.env.scope y:=(ok.free _ (PySem.mem_of_lookup hfr.1) rfl).elim (fun k=>.inr (.inl k)) (fun k=>.inr (.inr k))
  obtain ⟨w,r,q⟩:=hl i y av e1 e2 hvis
  refine ⟨w,r,.inr ⟨hfr.2,?_⟩⟩
  obtain ⟨c,h1,h2⟩:=look hfr.1
  rcases q with ⟨k,_⟩|⟨_,c',e',z⟩
  ·have k:X.env.scope.names.lookup y=some .local:=k
   rcases ok.free _ (PySem.mem_of_lookup hfr.1) rfl with k'|k'<;>rw [show X.env.scope.names.lookup y=_ from k'] at k<;>cases k
  ·rw [h2] at e';cases e'
   exact ⟨c,h1,z.keeps kp⟩
 ·have e:cenv.cells.lookup y=some c:=e
  rcases mem e with ⟨h1,_⟩|⟨_,z⟩
  ·obtain ⟨w,z⟩:=I.cell y c h1
   exact ⟨w,z.keeps kp⟩
  ·exact ⟨_,z⟩
 ·show H cenv.locals=none
  rw [hL];exact I.hok.fresh (Nat.le_refl _)
 ·have e:cenv.cells.lookup y=some c:=e
  rcases mem e with ⟨h1,_⟩|⟨h1,_⟩
  ·exact I.freeC y c h1
  ·exact I.hok.fresh (Nat.le_of_succ_le h1)
 ·exact absurd (show p∈([]:List (Addr×Obj))++[] from hp) (by simp)
theorem z4c {E:Value→Shared→Prop}{D:Addr}{xs:List V}{y:V}{v:Value}{Q:Value→Shared→Prop} (I:Inv X pins σ H s) (hD:H D=some (.lst xs)) (hz:xs.length < sizeLine) (r:RelV y v)
  (h:∀s',Inv X pins σ (upd H D (.lst (xs++[y]))) s'→Q .none s'):wpAny (model X.prog X.w) X.A (call (.builtin "list.append") [.ref D,v]) Q E s:=by
 obtain ⟨hz',its,n,ri,e⟩:=I.hok D _ hD
 have hl:=ri.length
 refine append_at (hsz:=by rw [List.size_toArray];lia) e fun h' sb ho'=>?_
 refine h { s with heap:=h' } (I.write (t':=s.toks) (by rw [hD];trivial) (.inl rfl) (fun b u hb q=>(sb.2 b hb).trans q) ⟨_,ho'⟩ ⟨by rw [zla];exact hz,its++[v],n+1,ri.append (.cons r .nil),?_⟩)
 rw [ho']
 simp
def PTs (X:Cx) (ifs:List Expr) (t:TT):Prop:=
 ∀(pins:List (Addr×Obj)) (s:Shared) (σ:St) (H:Hp) (Q:Bool→Hp→Prop),Inv X pins σ H s→t σ H Q→
  wpAny (model X.prog X.w) X.A (forIn ifs true fun c r=>if r=true then do let ok ←isTrue c X.env (eval c X.env);pure (ForInStep.yield ok) else pure (ForInStep.yield r)) (TP X pins σ Q) X.xe s
def tYes:TT:=fun _ H Q=>Q true H
theorem y4:PTs X [] tYes:=fun _ _ _ H _ I h=>wpAny_tests_nil ⟨H,I,h⟩
theorem z3I {c:Expr}{t:TT} (h:PT X c t):PTs X [c] t:=fun pins s σ H Q I hw=>wpAny_tests_one (h pins s σ H Q I hw)
end
theorem thnF {α:Type}{t:Sem α}{Q Q':α→Shared→Prop}{M:Model}{A:Around}{E:Value→Shared→Prop}{s:Shared} (h:wpAny M A t Q (fun _ _=>False) s) (hQ:∀a s,Q a s→Q' a s):wpAny M A t Q' E s:=wpAny_mono h hQ fun _ _ z=>False.elim z
theorem zSv {prog:Program}{w:World}{A:Around}{R:Result→Shared→Prop}{s:Shared}{elt target iter:Expr}{ifs:List Expr}{scope:Scope}{pos:Pos}{it acc:Value}{env:Env} (I:Nat→Shared→Prop)
  (turn:∀n s,I n s→wpAny (model prog w) A (pyNext it) (fun r s₁=>match r with
   | none=>R (.ok .next) s₁
   | some v=>wpAny (model prog w) A (letOwnedTupleGo target it v) (fun _ s₁'=>wpAny (model prog w) A (assign target env v) (fun _ s₂=>
     wpAny (model prog w) A (forIn ifs true fun c r=>if r=true then do let ok ←isTrue c env (eval c env);pure (ForInStep.yield ok) else pure (ForInStep.yield r)) (fun ok s₃=>
      if ok=true then wpAny (model prog w) A (eval elt env) (fun x s₄=>
       wpAny (model prog w) A (call (.builtin "list.append") [acc,x]) (fun _ s₅=>∃m,m < n∧I m s₅) (notedBy (model prog w) A env fun e s'=>R (.error e) s') s₄) (notedBy (model prog w) A env fun e s'=>R (.error e) s') s₃
      else ∃m,m < n∧I m s₃) (notedBy (model prog w) A env fun e s'=>R (.error e) s') s₂) (notedBy (model prog w) A env fun e s'=>R (.error e) s') s₁') (notedBy (model prog w) A env fun e s'=>R (.error e) s') s₁) (notedBy (model prog w) A env fun e s'=>R (.error e) s') s)
  (n:Nat) (h:I n s):
  codeAny (model prog w) A (.compLoop (.ListComp elt [⟨target,iter,ifs,0⟩] scope pos) 0 it acc env) R s:=by
 refine codeAny_loop rfl I (fun n s hI=>?_) n h
 show wpAny _ A ((compTurn (.ListComp elt [⟨target,iter,ifs,0⟩] scope pos) 0 it acc env).onRaise (fun x=>do noteFrame x env;theTreesLotGoes x)) _ _ s
 refine wpAny_noted ?_
 rw [compTurn_list]
 refine wpAny_bind (wpAny_standAt (wpAny_bind (wpAny_mono (turn n s hI) (fun r s₁ h₁=>?_) fun _ _ h'=>h')))
 cases r with
 | none=>exact wpAny_pure h₁
 | some v=>
  refine wpAny_bind (wpAny_mono h₁ (fun _ s₁' h₁'=>?_) fun _ _ h'=>h')
  refine wpAny_bind (wpAny_mono h₁' (fun _ s₂ h₂=>wpAny_bind (wpAny_mono h₂ (fun ok s₃ h₃=>?_) fun _ _ h'=>h')) fun _ _ h'=>h')
  cases ok with
  | false=>exact wpAny_pure ⟨rfl,h₃⟩
  | true=>
   exact wpAny_bind (wpAny_bind (wpAny_mono h₃ (fun x s₄ h₄=>wpAny_bind (wpAny_mono h₄ (fun _ s₅ h₅=>wpAny_pure (wpAny_pure ⟨rfl,h₅⟩)) fun _ _ h'=>h')) fun _ _ h'=>h'))
section
variable {X:Cx}
def tLc (wi:TI) (g:TG) (tt:TT) (te:TE) (vs:List Nat):TE:=fun σ H Q=>wi σ H fun J H1=>∀D,H1 D=none→∃W:Nat→Nat→Hp→Prop,(∃m,W 0 m (upd H1 D (.lst [])))∧∀i m H,W i m H→
 (J.stop i H∧Q (.ref D) H)∨(J.go i H∧∃Nx:Hp→Prop,(∀H',Nx H'→∃m',m' < m∧W (i+1) m' H')∧∀x H',J.yld i H x H'→g x (wipe σ vs) H' fun σ2 H2=>wipe σ2 vs=wipe σ vs∧tt σ2 H2 fun b H3=>
  if b=true then te σ2 H3 fun y H4=>∃acc,H4 D=some (.lst acc)∧acc.length < sizeLine∧Nx (upd H4 D (.lst (acc++[y]))) else Nx H3)
theorem z0N {pins:List (Addr×Obj)}{s:Shared}{σ:St}{H:Hp}{Q:VK}{elt tg iter:Expr}{ifs:List Expr}{scope:Scope}{own:List (Str×Nat)}{pos pos':Pos}{wi:TI}{g:TG}{tt:TT}{te:TE}{use:Option (Value→Sem Unit)}{Qf:Value→Shared→Prop}
  (hc:X.calm=true) (hN:X.N.Nodup) (I:Inv X pins σ H s) (hi:PI X tg iter wi) (ok:z0F X.N X.env.scope scope own)
  (hg:∀(s:Shared) (H:Hp) (C:Addr) (cl:List (Str×Addr)) (fp:List Addr),PG (X.blk s H scope (compEnvC scope cl C X.env) fp) tg g) (ht:∀(s:Shared) (H:Hp) (C:Addr) (cl:List (Str×Addr)) (fp:List Addr),PTs (X.blk s H scope (compEnvC scope cl C X.env) fp) ifs tt)
  (he:∀(s:Shared) (H:Hp) (C:Addr) (cl:List (Str×Addr)) (fp:List Addr),PE (X.blk s H scope (compEnvC scope cl C X.env) fp) elt te) (hs:∀x,foldedSetIterable iter X.env x=pure x)
  (h:tLc wi g tt te (own.map (·.2)) σ H Q)
  (hRR:∀D C s' m H',Inv X pins σ H' s'→Q (.ref D) H'→s'.heap.Ns C m→FpOk X pins H' C→compPost (model X.prog X.w) X.A X.xe use Qf (.ref D) C (.ok .next) s'):
  wpAny (model X.prog X.w) X.A (comprehension (.ListComp elt [⟨tg,iter,ifs,0⟩] scope pos) scope X.env pos' (newList []) false (eval iter X.env) use) Qf X.xe s:=by
 have hfree:∀y∈scope.names,y.2=.free→∃c,X.env.cells.lookup y.1=some c:=fun y hy e=>by
  rcases ok.free y hy e with k|k
  ·exact I.ok.has _ (.inl k)
  ·exact I.ok.has _ (.inr k)
 refine wpAny_comprehension_free (use:=use) rfl hs (zQ4 hfree) ok.kind (fun y hy e=>by rw [ok.uniq y hy,e])
  (thn (hi pins s σ H _ I h) fun xv s1 hx=>thn hx fun itv s2 h2=>?_)
 obtain ⟨it,fp,tn,J,H2,e,I2,T,st2,f2,q⟩:=h2
 subst e
 refine wpAny_newObj_type (zRv ?_) (by show 0≤sizeLine;decide)
 generalize hD:s2.heap.objs.size=D
 have hDn:H2 D=none:=I2.hok.fresh (Nat.le_of_eq hD)
 obtain ⟨W,⟨m0,w0⟩,turn⟩:=q D hDn
 generalize hs3:({ s2 with heap:=s2.heap.push { cls:=.type "list", data:=.seq ([]:List Value).toArray } }:Shared)=s3
 have I3:Inv X pins σ (upd H2 D (.lst [])) s3:=by
  rw [←hs3]
  refine I2.laid (t':=s2.toks) (fun b o e=>Heap.get?_push_of_some _ e) (Nat.le_of_eq hD) ⟨Nat.zero_le _,[],0,.nil,?_⟩
  rw [←hD]
  exact Heap.get?_push_size _ rfl
 have h3:s3.heap=s2.heap.push { cls:=.type "list", data:=.seq ([]:List Value).toArray }:=by rw [←hs3]
 have sz:∀b∈fp,b < s2.heap.objs.size:=fun b hb=>by
  obtain ⟨o,e,_⟩:=T.obj _ _ st2 b hb
  exact Heap.lt_size e
 have f3:∀b∈fp,FpOk X pins (upd H2 D (.lst [])) b∧b < s3.heap.objs.size:=fun b hb=>by
  have hlt:=sz b hb
  refine ⟨⟨?_,(f2 b hb).2⟩,by rw [h3,Heap.size_push];exact Nat.lt_succ_of_lt hlt⟩
  rw [zP (by rw [←hD];exact Nat.ne_of_lt hlt)]
  exact (f2 b hb).1
 have st3:tn 0 s3.heap:=T.keep _ _ _ st2 fun b _ o e=>by rw [h3];exact Heap.get?_push_of_some _ e
 have I4:=zRF I3 ok hN f3
 have pg:=hg s3 (upd H2 D (.lst [])) s3.heap.objs.size (cellsFrom (s3.heap.objs.size+1) scope.names (x5 X.env.cells scope.names [])) fp
 have pt:=ht s3 (upd H2 D (.lst [])) s3.heap.objs.size (cellsFrom (s3.heap.objs.size+1) scope.names (x5 X.env.cells scope.names [])) fp
 have pe:=he s3 (upd H2 D (.lst [])) s3.heap.objs.size (cellsFrom (s3.heap.objs.size+1) scope.names (x5 X.env.cells scope.names [])) fp
 show codeAny _ _ (.compStart (.ListComp elt [⟨tg,iter,ifs,0⟩] scope pos) 0 (.ref it) (.ref D) (compEnvC scope (cellsFrom (s3.heap.objs.size+1) scope.names (x5 X.env.cells scope.names [])) s3.heap.objs.size X.env)) (compPost (model X.prog X.w) X.A X.xe use Qf (.ref D) s3.heap.objs.size) { s3 with heap:=pushCells (s3.heap.push { cls:=.type "dict", data:=.dict #[] }) scope.names }
 have nfp:∀b∈fp,(upd H2 D (.lst [])) b=none:=fun b hb=>(f3 b hb).1.1
 generalize hce:compEnvC scope (cellsFrom (s3.heap.objs.size+1) scope.names (x5 X.env.cells scope.names [])) s3.heap.objs.size X.env=ce at I4 pg pt pe ⊢
 have cL:ce.locals=s3.heap.objs.size:=by subst hce;rfl
 generalize hH3:upd H2 D (.lst [])=H3 at I3 I4 pg pt pe w0 nfp f3
 generalize hs4:({ s3 with heap:=pushCells (s3.heap.push { cls:=.type "dict", data:=.dict #[] }) scope.names }:Shared)=s4 at I4 ⊢
 have st4:tn 0 s4.heap:=T.keep _ _ _ st3 fun b _ o e=>by rw [←hs4];exact pushCells_keeps _ _ _ _ (Heap.get?_push_of_some _ e)
 have stat:∀{σ':St}{H':Hp}{s':Shared},Inv (X.blk s3 H3 scope ce fp) [] σ' H' s'→(∀b∈fp,H' b=none)→∀b∈fp,FpOk (X.blk s3 H3 scope ce fp) [] H' b:=fun {σ' H' s'} I' hn b hb=>
  ⟨hn b hb,(I'.ok.exf b hb).1,I'.ok.exfs b hb,.inl hb,fun x c e=>(I'.ok.exf b hb).2 x c e,fun p hp=>absurd (show p∈([]:List (Addr×Obj))++[] from hp) (by simp)⟩
 have loop:codeAny (model X.prog X.w) X.A (.compLoop (.ListComp elt [⟨tg,iter,ifs,0⟩] scope pos) 0 (.ref it) (.ref D) ce) (compPost (model X.prog X.w) X.A X.xe use Qf (.ref D) s3.heap.objs.size) s4:=by
  refine zSv (fun n s'=>∃i H',Inv (X.blk s3 H3 scope ce fp) [] (wipe σ (own.map (·.2))) H' s'∧tn i s'.heap∧(∀b∈fp,H' b=none)∧W i n H') ?_ m0 ⟨0,H3,I4,st4,nfp,w0⟩
  rintro n s5 ⟨i,H5,I5,st5,n5,w5⟩
  rcases turn i n H5 w5 with ⟨stop,qq⟩|⟨go,Nx,hNx,step⟩
  ·have td:=T.done (X.blk s3 H3 scope ce fp) rfl rfl rfl hc i [] s5 _ H5 (fun _ _=>False) I5 (stat I5 n5) st5 stop
   refine thnF td fun r s6 ⟨hr,I6⟩=>?_
   subst hr
   have I7:Inv X pins σ H5 s6:=I3.call' (ch:=fp) I6.os I6.base I6.hok I6.bare fun b hb=>⟨(f3 b hb).1.2.2.2.1,(f3 b hb).1.2.1,(f3 b hb).1.2.2.2.2.1,(f3 b hb).1.2.2.2.2.2⟩
   have nC:H5 s3.heap.objs.size=none:=by
    have z:H5 ce.locals=none:=I6.free
    rw [cL] at z
    exact z
   obtain ⟨m,hn,_⟩:=I6.loc
   have hn:s6.heap.Ns ce.locals m:=hn
   rw [cL] at hn
   exact hRR D s3.heap.objs.size s6 m H5 I7 qq hn (I3.fpOk (Nat.le_refl _) nC)
  ·have ti:=T.item (X.blk s3 H3 scope ce fp) rfl rfl rfl hc i [] s5 _ H5 (fun _ _=>False) I5 (stat I5 n5) st5 go
   refine thnF ti fun r s6 ⟨u,hr,h6⟩=>?_
   subst hr
   refine thnF h6 fun _ s7 ⟨x,H7,I7,r7,y7,st7,n7⟩=>?_
   have I7':=I7.pinned (stat I7 n7) (T.obj _ _ st7)
   refine thnF (pg _ s7 _ H7 x u _ I7' r7 (step x H7 y7)) fun _ s8 ⟨σ8,H8,I8,hw8,q8⟩=>?_
   refine thnF (pt _ s8 σ8 H8 _ I8 q8) fun b s9 ⟨H9,I9,q9⟩=>?_
   have fin:∀{s':Shared}{H':Hp},Inv (X.blk s3 H3 scope ce fp) ([]++zSx fp s7.heap) σ8 H' s'→Nx H'→∃m,m < n∧∃i H',Inv (X.blk s3 H3 scope ce fp) [] (wipe σ (own.map (·.2))) H' s'∧tn i s'.heap∧(∀b∈fp,H' b=none)∧W i m H':=fun {s' H'} I' nx=>by
    obtain ⟨m',hm,w'⟩:=hNx H' nx
    have pin':∀b∈fp,∀o,s7.heap.get? b=some o→s'.heap.get? b=some o∧H' b=none:=fun b hb o e=>
     let z:=I'.pin (b,o) (List.mem_append_right _ (List.mem_append_right _ (zWJ hb e)))
     ⟨z.1,z.2.1⟩
    have hl:(wipe σ (own.map (·.2))).length=σ8.length:=by rw [←hw8,zXT]
    refine ⟨m',hm,i+1,H',(I'.unpinned (pins:=[])).weak hl (fun j v e=>?_),T.keep _ _ _ st7 fun b hb o e=>(pin' b hb o e).1,fun b hb=>?_,w'⟩
    ·rw [←hw8] at e
     exact (zUC e).1
    ·obtain ⟨o,e,_⟩:=T.obj _ _ st7 b hb
     exact (pin' b hb o e).2
   cases b with
   | false=>
    simp only [Bool.false_eq_true,if_false] at q9 ⊢
    exact fin I9 q9
   | true=>
    simp only [if_true] at q9 ⊢
    refine thnF (pe _ s9 σ8 H9 _ I9 q9) fun z s10 ⟨yv,H10,I10,r10,acc,hD10,hz10,nx⟩=>?_
    exact z4c (X:=X.blk s3 H3 scope ce fp) I10 hD10 hz10 r10 fun s11 I11=>fin I11 nx
 exact codeAny_compStart_list loop (T.self X.A 0 _ _ _ st4 loop)
theorem zZf {elt tg iter:Expr}{ifs:List Expr}{scope:Scope}{own:List (Str×Nat)}{pos:Pos}{wi:TI}{g:TG}{tt:TT}{te:TE} (hc:X.calm=true) (hN:X.N.Nodup) (hi:PI X tg iter wi) (ok:z0F X.N X.env.scope scope own)
  (hg:∀(s:Shared) (H:Hp) (C:Addr) (cl:List (Str×Addr)) (fp:List Addr),PG (X.blk s H scope (compEnvC scope cl C X.env) fp) tg g) (ht:∀(s:Shared) (H:Hp) (C:Addr) (cl:List (Str×Addr)) (fp:List Addr),PTs (X.blk s H scope (compEnvC scope cl C X.env) fp) ifs tt)
  (he:∀(s:Shared) (H:Hp) (C:Addr) (cl:List (Str×Addr)) (fp:List Addr),PE (X.blk s H scope (compEnvC scope cl C X.env) fp) elt te) (hs:∀x,foldedSetIterable iter X.env x=pure x:=by intro _;rfl):
  PE X (.ListComp elt [⟨tg,iter,ifs,0⟩] scope pos) (tLc wi g tt te (own.map (·.2))):=by
 intro pins s σ H Q I h
 rw [eval_ListComp]
 refine z0N hc hN I hi ok hg ht he hs h fun D C s' m H' I' q hn f=>⟨m,hn,fun h'' sb=>?_⟩
 obtain ⟨f0,f1,f2,f3,f4,f5⟩:=f
 exact ⟨.ref D,H',I'.turned (t':=s'.toks) (fun b o hb e=>(sb.2 b hb).trans e) f0 f1 f3 f4 f5,rfl,q⟩
theorem zZH {i:Nat}{y:Str}{py:Pos}{elt tg iter:Expr}{ifs:List Expr}{scope:Scope}{own:List (Str×Nat)}{pos spos:Pos}{wi:TI}{g:TG}{tt:TT}{te:TE} (hc:X.calm=true) (hN:X.N.Nodup) (hy:X.N[i]?=some y) (hyl:X.env.scope.names.lookup y=some .local)
  (hsw:swapsWith (.ListComp elt [⟨tg,iter,ifs,0⟩] scope pos) (some (.Name y py)) spos.line X.env=pure true) (hi:PI X tg iter wi) (ok:z0F X.N X.env.scope scope own)
  (hg:∀(s:Shared) (H:Hp) (C:Addr) (cl:List (Str×Addr)) (fp:List Addr),PG (X.blk s H scope (compEnvC scope cl C X.env) fp) tg g) (ht:∀(s:Shared) (H:Hp) (C:Addr) (cl:List (Str×Addr)) (fp:List Addr),PTs (X.blk s H scope (compEnvC scope cl C X.env) fp) ifs tt)
  (he:∀(s:Shared) (H:Hp) (C:Addr) (cl:List (Str×Addr)) (fp:List Addr),PE (X.blk s H scope (compEnvC scope cl C X.env) fp) elt te) (hs:∀x,foldedSetIterable iter X.env x=pure x:=by intro _;rfl):
  PS X (.Assign [.Name y py] (.ListComp elt [⟨tg,iter,ifs,0⟩] scope pos) spos) (tAsg (tLc wi g tt te (own.map (·.2))) (z2b i)):=by
 intro pins s σ H D I h
 rw [exec_Assign_Name_used _ _ _ _ hsw]
 refine wpAny_bind (wpAny_standAt (wpAny_bind ?_))
 show wpAny _ X.A (do let _ ←comprehension (.ListComp elt [⟨tg,iter,ifs,0⟩] scope pos) scope X.env (firstIterPos [⟨tg,iter,ifs,0⟩] pos) (newList []) false (eval iter X.env) (some (assign (.Name y py) X.env))) _ _ s
 have h:tLc wi g tt te (own.map (·.2)) σ H (fun x H1=>z2b i x σ H1 D.nx):=h
 refine wpAny_bind (thn (z0N (Qf:=fun _ s'=>SP X pins D .next s') hc hN I hi ok hg ht he hs h fun L C s' m H' I' q hn f=>?_) fun _ s' hq=>wpAny_pure (wpAny_pure hq))
 show wpAny _ _ (assign (.Name y py) X.env (.ref L)) _ _ _
 refine wpAny_assign_Name (zSm (v:=V.ref L) I' hN hy (.inl hyl) rfl (fun s2 I2 ⟨a,sb,ha⟩=>?_) (.inr hyl))
 obtain ⟨f0,f1,f2,f3,f4,f5⟩:=f
 have haC:C≠a:=by
  rcases ha with z|z
  ·rw [z];exact f1
  ·exact fun e=>f4 y a z e.symm
 refine ⟨m,hn.sameBut sb haC,fun h3 sb3=>?_⟩
 exact ⟨_,H',I2.turned (t':=s2.toks) (fun b o hb e=>(sb3.2 b hb).trans e) f0 f1 f3 f4 f5,q⟩
theorem zYW {elt:Expr}{gs:List Comprehension}{scope:Scope}{pos py:Pos}{y:Str}{l:Nat}{env:Env} (hk:env.scope.kind=.function) (hy:env.scope.names.lookup y=some .local) (hl:(py.line == pos.line)=true)
  (ha:(scope.names.any fun (n,k)=>n == y && (k == .local || k == .cell))=false):swapsWith (.ListComp elt gs scope pos) (some (.Name y py)) l env=pure true:=by
 have ky:env.kindOf y=some .local:=hy
 have hb:env.blockKind=.function:=by unfold Env.blockKind;rw [hk];rfl
 unfold swapsWith
 simp only [hb,ky,ha,Expr.pos,hl]
 rfl
end
def blkC (N:List Str) (sc scope:Scope) (own:List (Str×Nat)):Bool:=
 (match scope.kind with|.function=>true|_=>false) && (scope.names.all fun y=>decide (scope.names.lookup y.1=some y.2)) && (own.all fun p=>decide (N[p.2]?=some p.1)) &&
  (scope.names.all fun y=>match y.2 with
   | .free=>(match sc.names.lookup y.1 with|some .cell=>true|some .free=>true|_=>false)
   | .local=>decide (y.1∈own.map (·.1)) || decide (y.1∉N)
   | .cell=>decide (y.1∈own.map (·.1)) || decide (y.1∉N)
   | _=>true)
theorem yU {N:List Str}{sc scope:Scope}{own:List (Str×Nat)} (h:blkC N sc scope own=true):z0F N sc scope own:=by
 unfold blkC at h
 simp only [zbt,List.all_eq_true,decide_eq_true_eq] at h
 obtain ⟨⟨⟨h1,h2⟩,h3⟩,h4⟩:=h
 refine ⟨?_,h2,h3,fun y hy e=>?_,fun y hy e=>?_⟩
 ·split at h1
  ·assumption
  ·cases h1
 ·have q:=h4 y hy
  simp only [e] at q
  split at q<;>first|exact .inl (by assumption)|exact .inr (by assumption)|cases q
 ·have q:=h4 y hy
  rcases e with e|e<;>(simp only [e,Bool.or_eq_true,decide_eq_true_eq] at q;exact q)
open PySem PySem.Spec PyProof.Rows
section
variable {prog:Program}{w:World}{A:Around}{R:Result→Shared→Prop}{s:Shared}{elt t0 i0 t1 i1:Expr}{ifs0 ifs1:List Expr}{scope:Scope}{pos:Pos}{it acc:Value}{env:Env}
end
section
variable {X:Cx}
end
open PySem PySem.Spec PyProof.Rows
section
variable {κ:Type} [DecidableEq κ]
end
section
variable {P:Program}{w:World}{H:Hp}{h:Heap}{a:Addr}
end
section
variable {X:Cx}{pins:List (Addr×Obj)}{σ:St}{H:Hp}{s:Shared}{a:Addr}{y v:V}{u r:Value}{o:Option V}{A:Around}{E:Value→Shared→Prop}
end
section
variable {X:Cx}{pins:List (Addr×Obj)}{σ:St}{H:Hp}{s:Shared}{a:Addr}{kvs:List (Key×V)}{k:Key}{u:Value}{A:Around}{E:Value→Shared→Prop}
end
section
variable {X:Cx}{o i e value:Expr}{pos pos' tpos:Pos}{td ty tv:TE}
end
section
variable {X:Cx}{pos:Pos}
end
section
variable {X:Cx}{pins:List (Addr×Obj)}{σ:St}{H:Hp}{s:Shared}{a:Addr}{y d:V}{u r:Value}{o:Option V}{A:Around}{E:Value→Shared→Prop}
end
section
variable {X:Cx}{o e f:Expr}{apos cpos:Pos}{td ty tx:TE}
end
section
variable {X:Cx}{pins:List (Addr×Obj)}{σ:St}{H:Hp}{s:Shared}{a:Addr}{kvs:List (Key×V)}{A:Around}{E:Value→Shared→Prop}
end
section
variable {X:Cx}{pins:List (Addr×Obj)}{σ:St}{H:Hp}{s:Shared}{a:Addr}{y:V}{u:Value}{A:Around}{E:Value→Shared→Prop}
end
open PySem PySem.Spec PyProof.Rows
section
variable {prog:Program}{w:World}{A:Around}{E:Value→Shared→Prop}
end
section
variable {X:Cx}
end
open PySem PySem.Spec PyProof.Rows
section
variable {X:Cx}{pins:List (Addr×Obj)}{σ:St}{H:Hp}{s:Shared}{h':Heap}
theorem Inv.turnedL {t':Nat}{ch:List Addr} (I:Inv X pins σ H s) (k:∀b o,b∉ch→s.heap.get? b=some o→h'.get? b=some o) (hf:∀b∈ch,FpOk X pins H b):Inv X pins σ H { s with heap:=h',toks:=t' }:=by
 have nit:∀b u,H b=some u→b∉ch:=fun b u e z=>by
  have q:=(hf b z).1
  rw [q] at e;cases e
 refine I.step (g':=s.gens) (d':=s.drawn) (ch:=ch) (fun b hb=>⟨(hf b hb).2.2.2.1,(hf b hb).2.1,(hf b hb).2.2.2.2.1,(hf b hb).2.2.2.2.2⟩) (fun b o _ _ hc e _=>k b o hc e) (fun b o _ _ hc e _=>⟨o.slots,k b o hc e⟩)
  (fun _ _ _ _ n=>n) (fun b o hc e=>⟨o,k b o hc e⟩) (fun _ _ e=>e) (fun _ _ _ e=>e) (fun b ps e=>⟨#[],by rw [e];simp⟩) (fun m hm=>?_) (fun b u e=>?_) I.bare
 ·obtain ⟨o,es,ep,ho,r⟩:=hm
  exact ⟨o,es,ep,k _ o (fun z=>(hf _ z).2.1 rfl) ho,r⟩
 ·refine (I.hok b u e).stay (fun c v hc q=>k c v ?_ q) (fun _ q=>q) fun _ _ q=>q
  rcases hc with z|z
  ·rw [z];exact nit b u e
  ·exact nit c _ z
theorem Inv.turnedNew {t':Nat}{ch:List Addr}{T:Addr}{ob:HO} (I:Inv X pins σ H s) (k:∀b o,b∉ch→s.heap.get? b=some o→h'.get? b=some o) (hf:∀b∈ch,FpOk X pins H b) (hT:s.heap.objs.size≤T)
  (new:zZr X.prog X.w (upd H T ob) h' T ob):Inv X pins σ (upd H T ob) { s with heap:=h',toks:=t' }:=by
 have hn:H T=none:=I.hok.fresh hT
 have nit:∀b u,H b=some u→b∉ch:=fun b u e z=>by
  have q:=(hf b z).1
  rw [q] at e;cases e
 refine I.step (g':=s.gens) (d':=s.drawn) (ch:=ch) (fun b hb=>⟨(hf b hb).2.2.2.1,(hf b hb).2.1,(hf b hb).2.2.2.2.1,(hf b hb).2.2.2.2.2⟩) (fun b o _ _ hc e _=>k b o hc e) (fun b o _ _ hc e _=>⟨o.slots,k b o hc e⟩)
  (fun b o _ e n=>?_) (fun b o hc e=>⟨o,k b o hc e⟩) (fun b xs e=>?_) (fun b o u e=>?_) (fun b ps e=>⟨#[],?_⟩) (fun m hm=>?_) (fun b u e=>?_) I.bare
 ·rw [zP (Nat.ne_of_lt (Nat.lt_of_lt_of_le (Heap.lt_size e) hT))];exact n
 ·rw [zP (zT e hn)];exact e
 ·rw [zP (zT e hn)];exact e
 ·rw [zP (zT e hn),e];simp
 ·obtain ⟨o,es,ep,ho,r⟩:=hm
  exact ⟨o,es,ep,k _ o (fun z=>(hf _ z).2.1 rfl) ho,r⟩
 ·by_cases hb:b=T
  ·subst hb
   rw [zX] at e
   cases e
   exact new
  ·rw [zP hb] at e
   refine (I.hok b u e).stay (fun c v hc q=>k c v ?_ q) (fun c q=>by rw [zP (zT q hn)];exact q) fun c xs q=>by rw [zP (zT q hn)];exact q
   rcases hc with z|z
   ·rw [z];exact nit b u e
   ·exact nit c _ z
end
section
variable {X:Cx}
theorem z2Y {tg:Expr}{pins:List (Addr×Obj)}{σ:St}{H:Hp}{s:Shared}{R:It→Hp→Prop}{J:It}{tn:Nat→Heap→Prop}{tk:Nat} (I:Inv X pins σ H s) (o:Obj)
  (T:Turn X.prog X.w X.K tg J [s.heap.objs.size] s.heap.objs.size tn) (st:tn 0 (s.heap.push o)) (q:R J H):PIE X pins σ tg R (.ref s.heap.objs.size) { s with heap:=s.heap.push o,toks:=tk }:=by
 refine ⟨s.heap.objs.size,[s.heap.objs.size],tn,J,H,rfl,I.kept fun b ob e=>Heap.get?_push_of_some _ e,T,st,fun b hb=>?_,q⟩
 have e:b=s.heap.objs.size:=by simpa using hb
 subst e
 exact I.fpOk (Nat.le_refl _) (I.hok.fresh (Nat.le_refl _))
end
section
variable {X:Cx}{tg:Expr}
end
section
variable {X:Cx}{tg:Expr}
end
def Its (x:Str):It:=⟨fun i _=>i < x.cps.size,fun i H v H'=>H'=H∧∃c,x.cps[i]?=some c∧v=.str ⟨#[c]⟩,fun i _=>x.cps.size≤i⟩
theorem zQe {P:Program}{w:World}{K:Fg}{tg:Expr} (it:Addr) (x:Str) (t:Tok) (ty:String) (hty:ty = "str_ascii_iterator" ∨ ty = "str_iterator"):
  Turn P w K tg (Its x) [it] it (fun i h=>h.IsStrIter it ty x t i) where
 mem:=by simp
 obj:=fun i h st b hb=>by
  have e:b=it:=by simpa using hb
  subst e
  obtain ⟨o,e,c,d⟩:=st
  exact ⟨o,e,fun v z=>by rw [d] at z;cases z⟩
 keep:=fun i h h' st k=>let ⟨o,ho,r⟩:=st;⟨o,k it (by simp) o ho,r⟩
 item:=by
  intro X hP hw hK hc i pins s σ H E I hf st hg
  subst hP hw hK
  obtain ⟨f0,f1,f2,f3,f4,f5⟩:=hf it (by simp)
  have W:Walks X.prog X.w X.A it [it] [it] x.cps.size (SignAt x) (fun i h=>h.IsStrIter it ty x t i):=by
   rcases hty with e|e
   ·rw [e];exact Walks.strAscii (I.ok.hd hc) it x t
   ·rw [e];exact Walks.strWide (I.ok.hd hc) it x t
  have hno:["enumerate", "zip", "dict_itemiterator", "dict_reverseitemiterator", "odict_iterator", "itertools.zip_longest", "itertools.pairwise"].contains ty=false:=by
   rcases hty with e|e
   ·rw [e];decide
   ·rw [e];decide
  refine W.item i s _ _ hg st fun v h' tk hv st' kk=>?_
  obtain ⟨c,u,hcx,rfl⟩:=hv
  have I1:Inv X pins σ H { s with heap:=h',toks:=tk }:=I.turned (fun b o hb e=>kk b o (by simpa using hb) e) f0 f1 f3 f4 f5
  obtain ⟨oi,e,cc,dd⟩:=id st'
  exact ⟨_,rfl,z3p (s:={ s with heap:=h',toks:=tk }) e cc dd hno ⟨.str ⟨#[c]⟩,H,I1,⟨u,rfl⟩,⟨rfl,c,hcx,rfl⟩,st',fun b hb=>(hf b hb).1⟩⟩
 done:=by
  intro X hP hw hK hc i pins s σ H E I hf st hg
  subst hP hw hK
  obtain ⟨f0,f1,f2,f3,f4,f5⟩:=hf it (by simp)
  have hx:x.cps[i]?=none:=Array.getElem?_eq_none hg
  rcases hty with e|e
  ·rw [e] at st
   exact wpAny_pyNext_ascii_end (I.ok.hd hc) st hx fun h' eb=>⟨rfl,I.turned (t':=s.toks) (fun b o hb e=>eb b o hb e) f0 f1 f3 f4 f5⟩
  ·rw [e] at st
   exact wpAny_pyNext_wide_end (I.ok.hd hc) st hx fun h' eb=>⟨rfl,I.turned (t':=s.toks) (fun b o hb e=>eb b o hb e) f0 f1 f3 f4 f5⟩
 self:=fun A i s Q E st h=>by
  rcases hty with e|e
  ·rw [e] at st;exact wpAny_pyIter_striter_ascii st h
  ·rw [e] at st;exact wpAny_pyIter_striter_wide st h
def iStr (te:TE):TI:=fun σ H R=>te σ H fun v H1=>∃x,v=.str x∧R (Its x) H1
theorem z4H {X:Cx}{tg e:Expr}{te:TE} (he:PE X e te):PI X tg e (iStr te):=by
 intro pins s σ H R I h
 refine thn (he pins s σ H _ I h) fun v s1 ⟨y,H1,I1,r1,x,ex,q⟩=>?_
 subst ex
 obtain ⟨t,rfl⟩:=r1
 cases ha:x.cps.all (· < 128)
 ·exact wpAny_pyIter_wide ha (z2Y (tk:=s1.toks) I1 _ (zQe _ x t "str_iterator" (.inr rfl)) ⟨_,Heap.get?_push_size _ rfl,rfl,rfl⟩ q)
 ·exact wpAny_pyIter_ascii ha (z2Y (tk:=s1.toks) I1 _ (zQe _ x t "str_ascii_iterator" (.inl rfl)) ⟨_,Heap.get?_push_size _ rfl,rfl,rfl⟩ q)
section
variable {prog:Program}{w:World}{A:Around}{E:Value→Shared→Prop}{s:Shared}
end
section
variable {X:Cx}{pins:List (Addr×Obj)}{σ:St}{H:Hp}{s:Shared}{d:Addr}{o:Obj}
end
section
variable {P:Program}{w:World}{K:Fg}{tg:Expr}{d:Addr}{o:Obj}{es:Array DictEntry}{ep:Nat}
end
section
variable {X:Cx}{tg e:Expr}{td:TE}{apos cpos:Pos}
end
theorem z1B:bootBuiltins "zip" = some (.type "zip"):=by decide +kernel
def Itz (K:Fg) (a b:Addr):It:=
 ⟨fun i H=>∃(xs ys:List V) (x y:V),SqL K H a xs∧SqL K H b ys∧xs[i]?=some x∧ys[i]?=some y,
  fun i H v H'=>∃T x y,v=.ref T∧H T=none∧H'=upd H T (.tup [x,y])∧(∀xs,SqL K H a xs→xs[i]?=some x)∧∀ys,SqL K H b ys→ys[i]?=some y,
  fun i H=>∃xs ys:List V,SqL K H a xs∧SqL K H b ys∧(xs.length≤i∨ys.length≤i)⟩
theorem z2A {P:Program}{w:World}{K:Fg}{elts:List Expr}{kk:Nat}{tpos:Pos}{a b z TI TO i1 i2:Addr} (D:ZipApart z TI TO i1 i2 a b):
  Turn P w K (.Tuple elts kk tpos) (Itz K a b) [z,TI,TO,i1,i2] z (fun i h=>IsZip h z TI TO .none∧IsPair h TI (.ref i1) (.ref i2)∧(∃x y,IsPair h TO x y)∧h.IsListIter i1 a i∧h.IsListIter i2 b i) where
 mem:=by simp
 obj:=fun i h st c hc=>by
  obtain ⟨hz,hTI,⟨x,y,hTO⟩,⟨o1,e1,_,d1⟩,⟨o2,e2,_,d2⟩⟩:=st
  have e':c=z∨c=TI∨c=TO∨c=i1∨c=i2:=by simpa using hc
  rcases e' with q|q|q|q|q
  ·rw [q];exact ⟨_,hz,fun v q=>nomatch q⟩
  ·rw [q];exact ⟨_,hTI,fun v q=>nomatch q⟩
  ·rw [q];exact ⟨_,hTO,fun v q=>nomatch q⟩
  ·rw [q];exact ⟨o1,e1,fun v q=>by rw [d1] at q;cases q⟩
  ·rw [q];exact ⟨o2,e2,fun v q=>by rw [d2] at q;cases q⟩
 keep:=fun i h h' st k=>by
  obtain ⟨hz,hTI,⟨x,y,hTO⟩,h1,h2⟩:=st
  exact ⟨k z (by simp) _ hz,k TI (by simp) _ hTI,⟨x,y,k TO (by simp) _ hTO⟩,h1.at fun o q=>k i1 (by simp) o q,h2.at fun o q=>k i2 (by simp) o q⟩
 item:=by
  intro X hP hw hK hc i pins s σ H E I hf st hg
  subst hP hw hK
  obtain ⟨hz,hTI,⟨x0,y0,hTO⟩,h1,h2⟩:=st
  obtain ⟨xs,ys,x,y,hqx,hqy,hx,hy⟩:=hg
  obtain ⟨its,rv,p,_⟩:=I.list hqx
  obtain ⟨its2,rv2,p2,_⟩:=I.list hqy
  obtain ⟨u,hu,ru⟩:=rv.get hx
  obtain ⟨u2,hu2,ru2⟩:=rv2.get hy
  have hzl:z < s.heap.objs.size:=Heap.lt_size hz
  refine wpAny_pyNext_zip_item D hz hTI hTO h1 h2 p.isList p2.isList (x:=u) (y:=u2) (by simpa using hu) (by simpa using hu2) fun h' z' TO' h1' h2' hT hsz hk=>?_
  refine ⟨_,rfl,wpAny_letOwnedTupleGo_zip (s:={ s with heap:=h' }) z' fun h'' z'' sb=>?_⟩
  have hT2:h''.get? s.heap.objs.size=some { cls:=.type "tuple", data:=.seq #[u,u2] }:=(sb.2 _ (Nat.ne_of_gt hzl)).trans hT
  have new:zZr X.prog X.w (upd H s.heap.objs.size (.tup [x,y])) h'' s.heap.objs.size (.tup [x,y]):=
   ⟨by show 2≤sizeLine;decide,[u,u2],.cons ru (.cons ru2 .nil),⟨_,hT2,rfl,_,rfl⟩⟩
  have I1:Inv X pins σ (upd H s.heap.objs.size (.tup [x,y])) { s with heap:=h'' }:=
   I.turnedNew (t':=s.toks) (ch:=[z,TI,TO,i1,i2]) (fun c o hb q=>(sb.2 c (fun q'=>hb (by simp [q']))).trans (hk c o (fun q'=>hb (by simp [q'])) (fun q'=>hb (by simp [q'])) (fun q'=>hb (by simp [q'])) (fun q'=>hb (by simp [q'])) q)) hf (Nat.le_refl _) new
  refine ⟨.ref s.heap.objs.size,_,I1,rfl,⟨_,x,y,rfl,I.hok.fresh (Nat.le_refl _),rfl,fun l hl=>by rw [I.list_inj hl hqx];exact hx,fun l hl=>by rw [I.list_inj hl hqy];exact hy⟩,⟨z'',?_,⟨u,u2,?_⟩,?_,?_⟩,fun c hcm=>?_⟩
  ·exact (sb.2 _ D.TIz).trans (hk _ _ D.TIz D.TITO D.TIi1 D.TIi2 hTI)
  ·exact (sb.2 _ D.TOz).trans TO'
  ·exact h1'.at fun o q=>(sb.2 _ D.i1z).trans q
  ·exact h2'.at fun o q=>(sb.2 _ D.i2z).trans q
  ·have hlt:c < s.heap.objs.size:=by
    have e':c=z∨c=TI∨c=TO∨c=i1∨c=i2:=by simpa using hcm
    rcases e' with q|q|q|q|q
    ·rw [q];exact hzl
    ·rw [q];exact Heap.lt_size hTI
    ·rw [q];exact Heap.lt_size hTO
    ·rw [q];obtain ⟨_,e1,_⟩:=h1;exact Heap.lt_size e1
    ·rw [q];obtain ⟨_,e2,_⟩:=h2;exact Heap.lt_size e2
   rw [zP (Nat.ne_of_lt hlt)]
   exact (hf c hcm).1
 done:=by
  intro X hP hw hK hc i pins s σ H E I hf st hg
  subst hP hw hK
  obtain ⟨hz,hTI,⟨x0,y0,hTO⟩,h1,h2⟩:=st
  obtain ⟨xs,ys,hqx,hqy,hend⟩:=hg
  obtain ⟨its,rv,p,_⟩:=I.list hqx
  obtain ⟨its2,rv2,p2,_⟩:=I.list hqy
  have l1:=rv.length
  have l2:=rv2.length
  have he:its.toArray[i]?=none∨its2.toArray[i]?=none:=by
   rcases hend with q|q
   ·exact .inl (by simp;lia)
   ·exact .inr (by simp;lia)
  exact wpAny_pyNext_zip_end (I.ok.hd hc) D hz hTI hTO h1 h2 p.isList p2.isList he fun h' hk=>⟨rfl,I.turnedL (t':=s.toks) (ch:=[z,TI,TO,i1,i2]) (fun c o hb q=>
   hk c o (fun q'=>hb (by simp [q'])) (fun q'=>hb (by simp [q'])) (fun q'=>hb (by simp [q'])) (fun q'=>hb (by simp [q'])) q) hf⟩
 self:=fun A i s Q E st h=>wpAny_pyIter_zip st.1 h
def iZip (K:Fg) (ta:TA):TI:=fun σ H R=>ta σ H fun vs H1=>∃a b xs ys,vs=[.ref a,.ref b]∧SqL K H1 a xs∧SqL K H1 b ys∧R (Itz K a b) H1
theorem z4d {X:Cx}{e e2:Expr}{ta:TA}{p pos tpos:Pos}{elts:List Expr}{kk:Nat} (hg:Gl X "zip") (hm:X.mg "zip" = none) (ha:PA X [e,e2] ta)
  (hs:starEach [e,e2] X.env=(false,eval e X.env)::starEach [e2] X.env:=by rfl) (hpl:(backTo pos (starEach [e2] X.env)).any (·.1)=false:=by rfl):
  PI X (.Tuple elts kk tpos) (.Call (.Name "zip" p) [e,e2] [] pos) (iZip X.K ta):=by
 intro pins s σ H R I h
 refine Call_ (zTa I hg hm z1B (PyProof.Rows.callWith_type1 (thn (ha pos pins s σ H _ I h) fun us s1 ⟨vs,H1,I1,r1,q1⟩=>?_) hs hpl))
 obtain ⟨a,b,xs,ys,ex,hqx,hqy,q⟩:=q1
 subst ex
 cases r1 with
 | cons r rr=>
  cases rr with
  | cons r' rr=>
   cases rr
   cases r
   cases r'
   obtain ⟨its,rv,p1,_⟩:=I1.list hqx
   obtain ⟨its2,rv2,p2,_⟩:=I1.list hqy
   have la:a < s1.heap.objs.size:=p1.lt
   have lb:b < s1.heap.objs.size:=p2.lt
   refine call_zip_2 p1.isList p2.isList fun h' hz hTI hTO h1 h2 hsz hk=>wpAny_pyIter_zip hz ?_
   have I2:Inv X pins σ H1 { s1 with heap:=h' }:=I1.kept (t':=s1.toks) hk
   refine ⟨s1.heap.objs.size+4,[s1.heap.objs.size+4,s1.heap.objs.size+2,s1.heap.objs.size+3,s1.heap.objs.size,s1.heap.objs.size+1],_,_,H1,rfl,I2,z2A (PySem.W.ktu_apart s1.heap.objs.size a b la lb),⟨hz,hTI,⟨_,_,hTO⟩,h1,h2⟩,fun c hcm=>?_,q⟩
   have e':c=s1.heap.objs.size+4∨c=s1.heap.objs.size+2∨c=s1.heap.objs.size+3∨c=s1.heap.objs.size∨c=s1.heap.objs.size+1:=by simpa using hcm
   have hle:s1.heap.objs.size≤c:=by
    rcases e' with z|z|z|z|z
    ·rw [z];exact Nat.le_add_right _ _
    ·rw [z];exact Nat.le_add_right _ _
    ·rw [z];exact Nat.le_add_right _ _
    ·rw [z];exact Nat.le_refl _
    ·rw [z];exact Nat.le_add_right _ _
   exact I1.fpOk hle (I1.hok.fresh hle)
end L2
section
namespace Bits
open PySem PyProof.Rows
end Bits
end
section
namespace TL
open PySem PySem.Builtin PySem.Builtin.Str PySem.StrLaws
end TL
end
namespace L2
open PySem PySem.Spec PyProof.Rows
section
variable {X:Cx}{pins:List (Addr×Obj)}{σ:St}{H:Hp}{s:Shared}{Q:VK}
end
section
variable {X:Cx}
end
section
variable {X:Cx}{o e:Expr}{to te:TE}
end
open PySem PySem.Spec PyProof.Rows
section
variable {X:Cx}
end
end L2
namespace Att
open PySem PySem.W PySem.Calls PyProof.Rows
section
variable {prog:Program}{w:World}{A:Around}{E:Value→Shared→Prop}{s:Shared}{K:Frag}
end
end Att
namespace L2
open PySem PySem.Spec PyProof.Rows
open PySem PySem.Spec PyProof.Rows
open PySem PySem.Spec PyProof.Rows
def inClass (s:Stmt) (j:Nat):Stmt:=match s with
 | .ClassDef _ _ _ body _ _ _ _ _ _ _=>body.getD j (.Pass ⟨0,0,0,0⟩)
 | _=>.Pass ⟨0,0,0,0⟩
def wY (s:Stmt):Arguments:=match s with
 | .FunctionDef _ a _ _ _ _ _ _ _ _=>a
 | _=>{ posonlyargs:=[],args:=[],vararg:=none,kwonlyargs:=[],kw_defaults:=[],kwarg:=none,defaults:=[] }
def vY (s:Stmt):List Stmt:=match s with
 | .FunctionDef _ _ b _ _ _ _ _ _ _=>b
 | _=>[]
def zU (s:Stmt):Scope:=match s with
 | .FunctionDef _ _ _ _ _ _ sc _ _ _=>sc
 | _=>{ kind:=.function,names:=[],isGenerator:=false,isCoroutine:=false }
abbrev CX0:CXT:=fun _ _ _ _ _ _=>False
abbrev E0:XK:=fun _ _ _=>False
theorem z3C {X:Cx}:zTn CX0 X E0:=fun _ _ _ _ _ _ _ h=>h.elim
structure Fun (K:Fg) (x qual:Str) (st:Stmt) (f:Addr) (fd:FuncData):Prop where
 ex:∃(oc:Value) (od:Option Addr) (kV doc pm:Value) (an:Option Addr) (cdv ct:Value) (osl:Array (Option Value)),
  fd=PySem.W.fnOf x qual (wY st) (vY st) (zU st) .none kV doc pm an cdv ct∧K.lookup f=some ⟨oc,od,.func fd,osl⟩∧PySem.W.codeIn K cdv qual=true
 kp:PySem.W.keepIn K (.ref f)=true
section
variable {P:Program}{w:World}{K:Fg}{mg:Str→Option Value}{base:Heap}
theorem Fun.ok {x qual:Str}{st:Stmt}{f:Addr}{fd:FuncData}{N ps:List Str}{k:Nat}{sp:Sp} (F:Fun K x qual st f fd) (S:zO N ps (zU st)) (len:∀vs H Q E,sp vs H Q E→vs.length=ps.length)
  (hbody:∀(cdv:Value) (A:Around) (outer:List Env) (s:Shared) (H:Hp) (vs:List V) (Q:VK) (E:XK),Room k (A.deeper (envOfC qual (zU st) s.heap.objs.size f cdv))→sp vs H Q E→
   ∃t,PSs (cxOf CX0 P w K mg base N qual (zU st) f cdv A outer s H E).nox (vY st) t∧t { nx:=fun _ H'=>Q .non H',rt:=Q } (start N vs) H):FnOk P w K mg base CX0 (k+1) f fd ps sp:=by
 obtain ⟨oc,od,kV,doc,pm,an,cdv,ct,osl,rfl,lk,hcd⟩:=F.ex
 refine z4l lk hcd S len fun A outer s H vs Q E hr hsp=>?_
 obtain ⟨t,h,q⟩:=hbody cdv A outer s H vs Q E hr hsp
 exact ⟨t,h.nox,q⟩
theorem Fun.binds {x qual:Str}{st:Stmt}{f:Addr}{fd:FuncData}{ps:List Str} (F:Fun K x qual st f fd)
  (h:∀(kV doc pm:Value) (an:Option Addr) (cdv ct:Value) (us:List Value),us.length=ps.length→bindArgs (PySem.W.fnOf x qual (wY st) (vY st) (zU st) .none kV doc pm an cdv ct) ⟨us,[]⟩=pure (ps.zip us)):Binds K fd ps []:=by
 obtain ⟨oc,od,kV,doc,pm,an,cdv,ct,osl,rfl,lk,hcd⟩:=F.ex
 exact .all (h kV doc pm an cdv ct)
theorem z2K {x qual:Str}{st:Stmt}{f:Addr}{oc:Value}{od an:Option Addr}{osl:Array (Option Value)}{kV doc pm cdv ct:Value} (l:K.lookup f=some ⟨oc,od,.func (PySem.W.fnOf x qual (wY st) (vY st) (zU st) .none kV doc pm an cdv ct),osl⟩)
  (c:PySem.W.codeIn K cdv qual=true) (k:PySem.W.keepIn K (.ref f)=true):Fun K x qual st f (PySem.W.fnOf x qual (wY st) (vY st) (zU st) .none kV doc pm an cdv ct):=⟨⟨oc,od,kV,doc,pm,an,cdv,ct,osl,rfl,l,c⟩,k⟩
end
section
variable {X:Cx}
theorem pv (i:Nat) {x:Str}{pos:Pos} (hN:X.N[i]?=some x:=by rfl) (hv:Vis X.env.scope x:=by first|exact Or.inl rfl|exact Or.inr (Or.inl rfl)|exact Or.inr (Or.inr rfl)) (hd:(x == ("__debug__" : Str))=false:=by decide)
  (hcd:(x == ("__classdict__" : Str))=false:=by decide):PE X (.Name x pos) (tVar i):=z4f hN hv hd hcd
end
theorem iteF {A B:Prop} (h:B):if false=true then A else B:=by
 rw [if_neg Bool.false_ne_true]
 exact h
theorem iteT {A B:Prop} (h:A):if true=true then A else B:=by
 rw [if_pos rfl]
 exact h
section
variable {κ:Type} [DecidableEq κ]
end
end L2
section
set_option maxHeartbeats 2000000
namespace L2
open PySem PySem.Spec PyProof.Rows
open PySem.W (WData Codec OpenSpec Well WellAll ReadsW ReadsAllW)
mutual
inductive Dw (K:Fg) (H:Hp):V→WData→Prop
 | non:Dw K H .non .none
 | bl (b:Bool):Dw K H (.bl b) (.bool b)
 | int (i:Int):Dw K H (.int i) (.int i)
 | str (x:Str):Dw K H (.str x) (.str x)
 | byt (b:Array UInt8):Dw K H (.byt b) (.bytes b.toList)
 | lst {a:Addr}{xs:List V}{ds:List WData}:SqL K H a xs→zUB K H xs ds→Dw K H (.ref a) (.list ds)
 | tup {a:Addr}{xs:List V}{ds:List WData}:SqT K H a xs→zUB K H xs ds→Dw K H (.ref a) (.tuple ds)
inductive zUB (K:Fg) (H:Hp):List V→List WData→Prop
 | nil:zUB K H [] []
 | cons {v:V}{vs:List V}{d:WData}{ds:List WData}:Dw K H v d→zUB K H vs ds→zUB K H (v::vs) (d::ds)
end
theorem z1Y {K:Fg}{H:Hp}:∀ns:List Int,zUB K H (ns.map V.int) (ns.map WData.int)
 | []=>.nil
 | n::r=>.cons (.int n) (z1Y r)
theorem z3x {K:Fg}{H:Hp}:∀(ns:List Int) (xs:List V),zUB K H xs (ns.map WData.int)→xs=ns.map V.int
 | [],xs,h=>by
  cases h
  rfl
 | n::r,xs,h=>by
  cases h with
  | cons h1 h2=>
   cases h1
   rw [z3x r _ h2]<;>rfl
section
variable {P:Program}{w:World}{K:Fg}{H:Hp}{h:Heap}{R:PySem.W.WRecords}{cl:Str→Option Addr}
theorem z4w {a:Addr}{xs:List V} (hok:HOk P w H h) (KX:K.In h) (q:SqL K H a xs):∃(its:List Value) (o:Obj) (n:Nat),Vals xs its∧h.get? a=some o∧o.cls=.type "list" ∧ o.data=.seq its.toArray n:=by
 rcases q with q|⟨o,its,n,e,hc,_,hd,_,hv⟩
 ·obtain ⟨_,its,n,hv,e⟩:=(show zZr P w H h a (.lst xs) from q.ok hok)
  exact ⟨its,_,n,hv,e,rfl,rfl⟩
 ·exact ⟨its.toList,o,n,hv,KX _ _ e,hc,by simp [hd]⟩
theorem z47 {a:Addr}{xs:List V} (hok:HOk P w H h) (KX:K.In h) (q:SqT K H a xs):∃(its:List Value) (o:Obj) (n:Nat),Vals xs its∧h.get? a=some o∧o.cls=.type "tuple" ∧ o.data=.seq its.toArray n:=by
 rcases q with q|⟨o,its,n,e,hc,hd,_,hv⟩
 ·obtain ⟨_,its,hv,o,e,hc,n,hd⟩:=(show zZr P w H h a (.tup xs) from q.ok hok)
  exact ⟨its,o,n,hv,e,hc,hd⟩
 ·exact ⟨its.toList,o,n,hv,KX _ _ e,hc,by simp [hd]⟩
mutual
theorem Dw.reads (hok:HOk P w H h) (KX:K.In h):∀(d:WData) (v:V) (u:Value),Dw K H v d→RelV v u→∃as,ReadsW R cl h u d as
 | .none,_,_,x,r=>by
  cases x
  cases r
  exact ⟨_,ReadsW.none⟩
 | .bool b,_,_,x,r=>by
  cases x
  cases r
  exact ⟨_,ReadsW.bool b⟩
 | .int i,_,_,x,r=>by
  cases x
  obtain ⟨t,rfl⟩:=r
  exact ⟨_,ReadsW.int i t⟩
 | .str s,_,_,x,r=>by
  cases x
  obtain ⟨t,rfl⟩:=r
  exact ⟨_,ReadsW.str s t⟩
 | .bytes b,_,_,x,r=>by
  cases x
  obtain ⟨t,rfl⟩:=r
  exact ⟨_,ReadsW.bytes _ t⟩
 | .list ds,_,_,x,r=>by
  cases x with
  | lst hs ha=>
   cases r
   obtain ⟨its,o,n,rv,ho,hc,hd⟩:=z4w hok KX hs
   obtain ⟨as,hr⟩:=Dw.readsAll hok KX ds _ its ha rv
   exact ⟨_,ReadsW.list ho hc hd hr⟩
 | .tuple ds,_,_,x,r=>by
  cases x with
  | tup hs ha=>
   cases r
   obtain ⟨its,o,n,rv,ho,hc,hd⟩:=z47 hok KX hs
   obtain ⟨as,hr⟩:=Dw.readsAll hok KX ds _ its ha rv
   exact ⟨_,ReadsW.tuple ho hc hd hr⟩
 | .float _,_,_,x,_=>by cases x
 | .dict _,_,_,x,_=>by cases x
 | .bytearray _,_,_,x,_=>by cases x
 | .set _,_,_,x,_=>by cases x
 | .frozenset _,_,_,x,_=>by cases x
 | .obj _ _,_,_,x,_=>by cases x
theorem Dw.readsAll (hok:HOk P w H h) (KX:K.In h):∀(ds:List WData) (vs:List V) (us:List Value),zUB K H vs ds→Vals vs us→∃as,ReadsAllW R cl h us ds as
 | [],_,_,x,r=>by
  cases x
  cases r
  exact ⟨_,ReadsAllW.nil⟩
 | d::ds,_,_,x,r=>by
  cases x with
  | cons h1 h2=>
   cases r with
   | cons r1 r2=>
    obtain ⟨as,q1⟩:=Dw.reads hok KX d _ _ h1 r1
    obtain ⟨bs,q2⟩:=Dw.readsAll hok KX ds _ _ h2 r2
    exact ⟨_,ReadsAllW.cons q1 q2⟩
end
end
mutual
def plW:WData→Bool
 | .none=>true
 | .bool _=>true
 | .int _=>true
 | .str _=>true
 | .bytes _=>true
 | .list xs=>plWs xs
 | .tuple xs=>plWs xs
 | _=>false
def plWs:List WData→Bool
 | []=>true
 | x::r=>plW x && plWs r
end
theorem zQx {α:Type}{f:α→WData} (h:∀a,plW (f a)=true):∀l:List α,plWs (l.map f)=true
 | []=>rfl
 | x::r=>by
  show (plW (f x) && plWs (r.map f))=true
  rw [h x,zQx h r]<;>rfl
theorem zVq:∀(c:Codec) (a:c.denote),plW (c.enc a)=true
 | .unit,_=>rfl
 | .bool,_=>rfl
 | .int _ _,_=>rfl
 | .nat _ _,_=>rfl
 | .u8,_=>rfl
 | .bytes _ _,_=>rfl
 | .text _ _ _ _,_=>rfl
 | .list _ _ c,a=>zQx (fun x=>zVq c x) a
 | .pair c d,a=>by
  show (plW (c.enc a.1) && (plW (d.enc a.2) && true))=true
  rw [zVq c a.1,zVq d a.2]<;>rfl
 | .triple c d e,a=>by
  show (plW (c.enc a.1) && (plW (d.enc a.2.1) && (plW (e.enc a.2.2) && true)))=true
  rw [zVq c a.1,zVq d a.2.1,zVq e a.2.2]<;>rfl
 | .option c,none=>rfl
 | .option c,some x=>zVq c x
theorem zSj:∀(cs:List Codec) (a:Codec.denoteAll cs),plWs (Codec.encAll cs a)=true
 | [],_=>rfl
 | c::cs,a=>by
  show (plW (c.enc a.1) && plWs (Codec.encAll cs a.2))=true
  rw [zVq c a.1,zSj cs a.2]<;>rfl
theorem zWS:∀{xs:List WData}{d:WData},d∈xs→d.weight≤WData.weightAll xs
 | [],d,h=>absurd h (by simp)
 | x::r,d,h=>by
  show d.weight≤x.weight+1+WData.weightAll r
  rcases List.mem_cons.mp h with e|m
  ·rw [e]
   lia
  ·have z:=zWS m
   lia
def toV:Value→V
 | .none=>.non
 | .bool b=>.bl b
 | .int i _=>.int i
 | .str x _=>.str x
 | .bytes b _=>.byt b
 | .ref a=>.ref a
 | _=>.non
def OkU (A:List Addr):Value→Prop
 | .none=>True
 | .bool _=>True
 | .int _ _=>True
 | .str _ _=>True
 | .bytes _ _=>True
 | .ref a=>a∈A
 | _=>False
theorem OkU.mono {A B:List Addr} (h:∀a∈A,a∈B):∀{u:Value},OkU A u→OkU B u:=fun {u} x=>by
 cases u with
 | ref a=>exact h a x
 | none=>trivial
 | bool b=>trivial
 | int i t=>trivial
 | str s t=>trivial
 | bytes b t=>trivial
 | _=>exact False.elim x
theorem z13 {A:List Addr}{u:Value} (x:OkU A u):RelV (toV u) u:=by
 cases u with
 | ref a=>rfl
 | none=>rfl
 | bool b=>rfl
 | int i t=>exact ⟨t,rfl⟩
 | str s t=>exact ⟨t,rfl⟩
 | bytes b t=>exact ⟨t,rfl⟩
 | _=>exact False.elim x
theorem zXf {A:List Addr}:∀{vs:List Value},(∀u∈vs,OkU A u)→Vals (vs.map toV) vs
 | [],_=>.nil
 | u::r,h=>.cons (z13 (h u (List.mem_cons_self ..))) (zXf fun x hx=>h x (zmc _ hx))
def zVE (h:Heap) (A:List Addr) (a:Addr):Prop:=∃vs:List Value,vs.length≤sizeLine∧(∀u∈vs,OkU A u)∧
 (h.get? a=some { cls:=.type "list", data:=.seq vs.toArray }∨h.get? a=some { cls:=.type "tuple", data:=.seq vs.toArray })
theorem zVE.mono {h:Heap}{A B:List Addr}{a:Addr} (k:∀a∈A,a∈B) (x:zVE h A a):zVE h B a:=by
 obtain ⟨vs,h1,h2,h3⟩:=x
 exact ⟨vs,h1,fun u hu=>(h2 u hu).mono k,h3⟩
theorem zYm {P:Params}{h:Heap}:∀{vs:List Value}{ds:List WData},WellAll P h vs ds→vs.length=ds.length
 | _,_,.nil=>rfl
 | _,_,.cons _ b=>by
  show _+1=_+1
  rw [zYm b]
theorem zSX {P:Params}{h:Heap}{v:Value}{ds:List WData} (x:Well P h v (.list ds)):∃(a:Addr) (vs:List Value),v=.ref a∧h.get? a=some { cls:=.type "list", data:=.seq vs.toArray }∧WellAll P h vs ds:=by
 cases x with
 | list ho hall=>exact ⟨_,_,rfl,ho,hall⟩
theorem zTq {P:Params}{h:Heap}{v:Value}{ds:List WData} (x:Well P h v (.tuple ds)):∃(a:Addr) (vs:List Value),v=.ref a∧h.get? a=some { cls:=.type "tuple", data:=.seq vs.toArray }∧WellAll P h vs ds:=by
 cases x with
 | tuple ho hall=>exact ⟨_,_,rfl,ho,hall⟩
theorem zST {P:Params}{h:Heap}{us:List Value}{d:WData}{ds:List WData} (x:WellAll P h us (d::ds)):∃(v:Value) (vs:List Value),us=v::vs∧Well P h v d∧WellAll P h vs ds:=by
 cases x with
 | cons a b=>exact ⟨_,_,rfl,a,b⟩
theorem line_of {n:Nat} (h:n≤1048576):n≤sizeLine:=Nat.le_trans h (by decide)
section
variable {P:Params}{h:Heap}
mutual
theorem z2d:∀(d:WData) (v:Value),Well P h v d→plW d=true→d.weight≤1048576→∃A:List Addr,OkU A v∧∀a∈A,zVE h A a
 | .none,_,x,_,_=>by
  cases x
  exact ⟨[],trivial,fun a m=>absurd m (by simp)⟩
 | .bool b,_,x,_,_=>by
  cases x
  exact ⟨[],trivial,fun a m=>absurd m (by simp)⟩
 | .int i,_,x,_,_=>by
  cases x
  exact ⟨[],trivial,fun a m=>absurd m (by simp)⟩
 | .str s,_,x,_,_=>by
  cases x
  exact ⟨[],trivial,fun a m=>absurd m (by simp)⟩
 | .bytes b,_,x,_,_=>by
  cases x
  exact ⟨[],trivial,fun a m=>absurd m (by simp)⟩
 | .list ds,_,x,p,z=>by
  obtain ⟨a,vs,rfl,ho,hall⟩:=zSX x
  have z2:WData.weightAll ds≤1048576:=z
  obtain ⟨A,h1,h2⟩:=zVJ ds _ hall p fun d hd=>Nat.le_trans (zWS hd) z2
  have k:∀b∈A,b∈a::A:=fun b hb=>zmc _ hb
  refine ⟨a::A,List.mem_cons_self ..,fun b hb=>?_⟩
  rcases List.mem_cons.mp hb with e|m
  ·rw [e]
   exact ⟨vs,line_of (by rw [zYm hall];exact Nat.le_trans (PySem.W.length_le_weightAllW ds) z2),fun u hu=>(h1 u hu).mono k,.inl ho⟩
  ·exact (h2 b m).mono k
 | .tuple ds,_,x,p,z=>by
  obtain ⟨a,vs,rfl,ho,hall⟩:=zTq x
  have z2:WData.weightAll ds≤1048576:=z
  obtain ⟨A,h1,h2⟩:=zVJ ds _ hall p fun d hd=>Nat.le_trans (zWS hd) z2
  have k:∀b∈A,b∈a::A:=fun b hb=>zmc _ hb
  refine ⟨a::A,List.mem_cons_self ..,fun b hb=>?_⟩
  rcases List.mem_cons.mp hb with e|m
  ·rw [e]
   exact ⟨vs,line_of (by rw [zYm hall];exact Nat.le_trans (PySem.W.length_le_weightAllW ds) z2),fun u hu=>(h1 u hu).mono k,.inr ho⟩
  ·exact (h2 b m).mono k
 | .float _,_,_,p,_=>Bool.noConfusion (show false=true from p)
 | .dict _,_,_,p,_=>Bool.noConfusion (show false=true from p)
 | .bytearray _,_,_,p,_=>Bool.noConfusion (show false=true from p)
 | .set _,_,_,p,_=>Bool.noConfusion (show false=true from p)
 | .frozenset _,_,_,p,_=>Bool.noConfusion (show false=true from p)
 | .obj _ _,_,_,p,_=>Bool.noConfusion (show false=true from p)
theorem zVJ:∀(ds:List WData) (vs:List Value),WellAll P h vs ds→plWs ds=true→(∀d∈ds,d.weight≤1048576)→∃A:List Addr,(∀u∈vs,OkU A u)∧∀a∈A,zVE h A a
 | [],_,x,_,_=>by
  cases x
  exact ⟨[],fun u m=>absurd m (by simp),fun a m=>absurd m (by simp)⟩
 | d::ds,_,x,p,z=>by
  obtain ⟨v,vs,rfl,x1,x2⟩:=zST x
  have q:plW d=true∧plWs ds=true:=Bool.and_eq_true_iff.mp p
  obtain ⟨A,a1,a2⟩:=z2d d v x1 q.1 (z d (List.mem_cons_self ..))
  obtain ⟨B,b1,b2⟩:=zVJ ds vs x2 q.2 fun e he=>z e (zmc _ he)
  have kA:∀b∈A,b∈A++B:=fun b hb=>List.mem_append.mpr (.inl hb)
  have kB:∀b∈B,b∈A++B:=fun b hb=>List.mem_append.mpr (.inr hb)
  refine ⟨A++B,fun u hu=>?_,fun b hb=>?_⟩
  ·rcases List.mem_cons.mp hu with e|m
   ·rw [e]
    exact a1.mono kA
   ·exact (b1 u m).mono kB
  ·rcases List.mem_append.mp hb with m|m
   ·exact (a2 b m).mono kA
   ·exact (b2 b m).mono kB
end
end
def hoOf (o:Obj):Option HO:=match o.data with
 | .seq vs _=>if (o.cls == Value.type "list")=true then some (.frz o (.lst (vs.toList.map toV))) else some (.frz o (.tup (vs.toList.map toV)))
 | _=>none
def argH (K:Fg) (h:Heap) (A:List Addr):Hp:=fun b=>if b∈A then (if (K.lookup b).isNone=true then (h.get? b).bind hoOf else none) else none
def z14 (H:Hp):Prop:=∀b,H b=none∨∃o u,H b=some (.frz o u)
theorem zQw (vs:List Value):hoOf { cls:=.type "list", data:=.seq vs.toArray }=some (.frz { cls:=.type "list", data:=.seq vs.toArray } (.lst (vs.map toV))):=by
 show (if (Value.type "list" == Value.type "list")=true then some (HO.frz { cls:=.type "list", data:=.seq vs.toArray } (.lst (vs.toArray.toList.map toV))) else some (HO.frz { cls:=.type "list", data:=.seq vs.toArray } (.tup (vs.toArray.toList.map toV))))=_
 rw [if_pos (beq_self_eq_true _)]
theorem zQh (vs:List Value):hoOf { cls:=.type "tuple", data:=.seq vs.toArray }=some (.frz { cls:=.type "tuple", data:=.seq vs.toArray } (.tup (vs.map toV))):=by
 show (if (Value.type "tuple" == Value.type "list")=true then some (HO.frz { cls:=.type "tuple", data:=.seq vs.toArray } (.lst (vs.toArray.toList.map toV))) else some (HO.frz { cls:=.type "tuple", data:=.seq vs.toArray } (.tup (vs.toArray.toList.map toV))))=_
 rw [if_neg (by decide)]
section
variable {P:Program}{w:World}{K:Fg}{h:Heap}{A:List Addr}
theorem zTR {b:Addr}{o:Obj} (hb:b∈A) (hk:K.lookup b=none) (e:h.get? b=some o):argH K h A b=hoOf o:=by
 unfold argH
 rw [if_pos hb,hk,if_pos (show (none:Option Obj).isNone=true from rfl),e]<;>rfl
theorem z3q {b:Addr}{u:HO} (q:argH K h A b=some u):b∈A∧K.lookup b=none:=by
 unfold argH at q
 by_cases hb:b∈A
 ·rw [if_pos hb] at q
  cases hk:K.lookup b with
  | none=>exact ⟨hb,rfl⟩
  | some o=>
   rw [hk,if_neg (by simp)] at q
   cases q
 ·rw [if_neg hb] at q
  cases q
theorem zS9 (ar:∀a∈A,zVE h A a) {b:Addr}{u:HO} (q:argH K h A b=some u):K.lookup b=none∧∃vs:List Value,vs.length≤sizeLine∧(∀u∈vs,OkU A u)∧
  ((h.get? b=some { cls:=.type "list", data:=.seq vs.toArray }∧u=.frz { cls:=.type "list", data:=.seq vs.toArray } (.lst (vs.map toV)))∨
    (h.get? b=some { cls:=.type "tuple", data:=.seq vs.toArray }∧u=.frz { cls:=.type "tuple", data:=.seq vs.toArray } (.tup (vs.map toV)))):=by
 obtain ⟨hb,hk⟩:=z3q q
 obtain ⟨vs,h1,h2,h3⟩:=ar b hb
 refine ⟨hk,vs,h1,h2,?_⟩
 rcases h3 with e|e
 ·rw [zTR hb hk e,zQw] at q
  exact .inl ⟨e,(zsi q).symm⟩
 ·rw [zTR hb hk e,zQh] at q
  exact .inr ⟨e,(zsi q).symm⟩
theorem z1c (ar:∀a∈A,zVE h A a):z14 (argH K h A):=fun b=>by
 cases q:argH K h A b with
 | none=>exact .inl rfl
 | some u=>
  obtain ⟨_,vs,_,_,⟨_,e⟩|⟨_,e⟩⟩:=zS9 ar q
  ·exact .inr ⟨_,_,by rw [e]⟩
  ·exact .inr ⟨_,_,by rw [e]⟩
theorem z3E (ar:∀a∈A,zVE h A a):HOk P w (argH K h A) h:=fun b u q=>by
 obtain ⟨_,vs,h1,h2,⟨e,rfl⟩|⟨e,rfl⟩⟩:=zS9 ar q
 ·exact ⟨e,by rw [zlm];exact h1,vs,_,zXf h2,e⟩
 ·exact ⟨e,by rw [zlm];exact h1,vs,zXf h2,_,e,rfl,_,rfl⟩
theorem zTW {c c':Value}{vs us:List Value} (e:(some { cls:=c,data:=.seq vs.toArray }:Option Obj)=some { cls:=c',data:=.seq us.toArray }):c=c'∧vs=us:=by
 have e1:=zsi e
 have e2:c=c':=congrArg Obj.cls e1
 have e3:Data.seq vs.toArray=Data.seq us.toArray:=congrArg Obj.data e1
 injection e3 with e4
 refine ⟨e2,?_⟩
 have e5:=congrArg Array.toList e4
 simpa using e5
theorem argL (KX:K.In h) (ar:∀a∈A,zVE h A a) {a:Addr}{vs:List Value} (ha:a∈A) (e:h.get? a=some { cls:=.type "list", data:=.seq vs.toArray }):(∀u∈vs,OkU A u)∧SqL K (argH K h A) a (vs.map toV):=by
 obtain ⟨us,h1,h2,h3⟩:=ar a ha
 have hu:us=vs:=by
  rcases h3 with q|q
  ·rw [e] at q
   exact (zTW q).2.symm
  ·rw [e] at q
   exact absurd (Value.type.inj (zTW q).1) (by decide)
 subst hu
 refine ⟨h2,?_⟩
 cases hk:K.lookup a with
 | none=>exact .inl (.inr ⟨_,by rw [zTR ha hk e,zQw]⟩)
 | some o=>
  have e2:=KX a o hk
  rw [e] at e2
  obtain rfl:=zsi e2
  exact .inr ⟨_,us.toArray,_,hk,rfl,rfl,rfl,by rw [List.size_toArray];exact h1,by simpa using zXf h2⟩
theorem argT (KX:K.In h) (ar:∀a∈A,zVE h A a) {a:Addr}{vs:List Value} (ha:a∈A) (e:h.get? a=some { cls:=.type "tuple", data:=.seq vs.toArray }):(∀u∈vs,OkU A u)∧SqT K (argH K h A) a (vs.map toV):=by
 obtain ⟨us,h1,h2,h3⟩:=ar a ha
 have hu:us=vs:=by
  rcases h3 with q|q
  ·rw [e] at q
   exact absurd (Value.type.inj (zTW q).1) (by decide)
  ·rw [e] at q
   exact (zTW q).2.symm
 subst hu
 refine ⟨h2,?_⟩
 cases hk:K.lookup a with
 | none=>exact .inl (.inr ⟨_,by rw [zTR ha hk e,zQh]⟩)
 | some o=>
  have e2:=KX a o hk
  rw [e] at e2
  obtain rfl:=zsi e2
  exact .inr ⟨_,us.toArray,_,hk,rfl,rfl,by rw [List.size_toArray];exact h1,by simpa using zXf h2⟩
mutual
theorem z4N {Pm:Params} (KX:K.In h) (ar:∀a∈A,zVE h A a):∀(d:WData) (v:Value),Well Pm h v d→plW d=true→OkU A v→Dw K (argH K h A) (toV v) d
 | .none,_,x,_,_=>by
  cases x
  exact .non
 | .bool b,_,x,_,_=>by
  cases x
  exact .bl b
 | .int i,_,x,_,_=>by
  cases x
  exact .int i
 | .str s,_,x,_,_=>by
  cases x
  exact .str s
 | .bytes b,_,x,_,_=>by
  cases x
  have z:=Dw.byt (K:=K) (H:=argH K h A) b.toArray
  exact z
 | .list ds,_,x,p,hu=>by
  obtain ⟨a,vs,rfl,ho,hall⟩:=zSX x
  obtain ⟨h2,hs⟩:=argL KX ar hu ho
  exact .lst hs (zQj KX ar ds _ hall p h2)
 | .tuple ds,_,x,p,hu=>by
  obtain ⟨a,vs,rfl,ho,hall⟩:=zTq x
  obtain ⟨h2,hs⟩:=argT KX ar hu ho
  exact .tup hs (zQj KX ar ds _ hall p h2)
 | .float _,_,_,p,_=>Bool.noConfusion (show false=true from p)
 | .dict _,_,_,p,_=>Bool.noConfusion (show false=true from p)
 | .bytearray _,_,_,p,_=>Bool.noConfusion (show false=true from p)
 | .set _,_,_,p,_=>Bool.noConfusion (show false=true from p)
 | .frozenset _,_,_,p,_=>Bool.noConfusion (show false=true from p)
 | .obj _ _,_,_,p,_=>Bool.noConfusion (show false=true from p)
theorem zQj {Pm:Params} (KX:K.In h) (ar:∀a∈A,zVE h A a):∀(ds:List WData) (vs:List Value),WellAll Pm h vs ds→plWs ds=true→(∀u∈vs,OkU A u)→zUB K (argH K h A) (vs.map toV) ds
 | [],_,x,_,_=>by
  cases x
  exact .nil
 | d::ds,_,x,p,hu=>by
  obtain ⟨v,vs,rfl,x1,x2⟩:=zST x
  have q:plW d=true∧plWs ds=true:=Bool.and_eq_true_iff.mp p
  exact .cons (z4N KX ar d v x1 q.1 (hu _ (List.mem_cons_self ..))) (zQj KX ar ds vs x2 q.2 fun u m=>hu u (zmc _ m))
end
end
theorem zUW {ds:List WData} (h:WData.layableAll ds=true):∀d∈ds,d.weight≤1048576:=fun d hd=>
 (PySem.W.layableW_iff.mp (List.all_eq_true.mp h d hd)).2.2
theorem zTh:∀(cs:List Codec) (a:Codec.denoteAll cs),(Codec.encAll cs a).length=cs.length
 | [],_=>rfl
 | c::cs,a=>by
  show (Codec.encAll cs a.2).length+1=cs.length+1
  rw [zTh cs a.2]
end L2
end
namespace Chg
def sm:Nat→(Nat→Nat)→Nat
 | 0,_=>0
 | n+1,f=>sm n f+f n
theorem yW {f g:Nat→Nat}:∀{n:Nat},(∀i,i < n→f i=g i)→sm n f=sm n g
 | 0,_=>rfl
 | n+1,h=>by
  have ih:=yW (n:=n) fun i hi=>h i (by lia)
  simp only [sm,ih,h n (by lia)]
theorem zWR {f g:Nat→Nat}:∀{n:Nat},(∀i,i < n→f i≤g i)→sm n f≤sm n g
 | 0,_=>Nat.le_refl _
 | n+1,h=>by
  have ih:=zWR (n:=n) fun i hi=>h i (by lia)
  have hn:=h n (by lia)
  simp only [sm]
  lia
theorem zUI {f g:Nat→Nat}:∀{n:Nat},sm n (fun i=>f i+g i)=sm n f+sm n g
 | 0=>rfl
 | n+1=>by
  have ih:=zUI (f:=f) (g:=g) (n:=n)
  simp only [sm,ih]
  lia
theorem zRJ:∀{n:Nat},sm n (fun _=>0)=0
 | 0=>rfl
 | n+1=>by simp only [sm,zRJ]
theorem zYw {f:Nat→Nat}{n:Nat} (h:∀i,i < n→f i=0):sm n f=0:=(yW h).trans zRJ
theorem z0z {f:Nat→Nat}:∀{n:Nat},sm (n+1) f=f 0+sm n (fun i=>f (i+1))
 | 0=>by simp only [sm];lia
 | n+1=>by
  have ih:=z0z (f:=f) (n:=n)
  rw [sm,ih]
  simp only [sm]
  lia
def upd {α:Type} (f:Nat→α) (t:Nat) (v:α):Nat→α:=fun u=>if u=t then v else f u
theorem qT {α:Type}{f:Nat→α}{t:Nat}{v:α}:upd f t v t=v:=if_pos rfl
theorem zXS {α:Type}{f:Nat→α}{t u:Nat}{v:α} (h:u≠t):upd f t v u=f u:=if_neg h
theorem qR {f:Nat→Nat}{t:Nat}:∀{n:Nat},t < n→sm n f=sm n (upd f t 0)+f t
 | 0,h=>by lia
 | n+1,h=>by
  by_cases e:t=n
  ·subst e
   have e1:sm t (upd f t 0)=sm t f:=yW fun i hi=>zXS (by lia)
   simp only [sm,e1,qT]
   lia
  ·have ih:=qR (f:=f) (t:=t) (n:=n) (by lia)
   have e1:upd f t 0 n=f n:=zXS (fun q=>e q.symm)
   simp only [sm,ih,e1]
   lia
theorem uT {f:Nat→Nat}{t x y:Nat}:upd (upd f t x) t y=upd f t y:=by
 funext u
 unfold upd
 by_cases e:u=t
 ·simp only [if_pos e]
 ·simp only [if_neg e]
def W (n:Nat) (f:Nat→Nat) (a:Nat):Nat:=sm n fun c=>if a.testBit c=true then f c else 0
theorem zZT {n:Nat}{f g:Nat→Nat}{a:Nat} (h:∀c,c < n→f c=g c):W n f a=W n g a:=yW fun i hi=>by
 show (if a.testBit i=true then f i else 0)=if a.testBit i=true then g i else 0
 rw [h i hi]
theorem z4W {n:Nat}{f:Nat→Nat}{a b:Nat} (h:∀c,c < n→a.testBit c=b.testBit c):W n f a=W n f b:=yW fun i hi=>by
 show (if a.testBit i=true then f i else 0)=if b.testBit i=true then f i else 0
 rw [h i hi]
theorem zWw {f:Nat→Nat}{a b n:Nat}:W n f (a ||| b)+W n f (a &&& b)=W n f a+W n f b:=by
 unfold W
 rw [←zUI,←zUI]
 refine yW fun i _=>?_
 simp only [Nat.testBit_or,Nat.testBit_and]
 cases a.testBit i<;>cases b.testBit i<;>simp
theorem zVS {n:Nat}{f:Nat→Nat}{a b:Nat} (h:∀c,c < n→a.testBit c=true→b.testBit c=true):W n f a≤W n f b:=zWR fun i hi=>by
 by_cases e:a.testBit i=true
 ·simp only [e,h i hi e,if_true]
  exact Nat.le_refl _
 ·simp only [if_neg e]
  exact Nat.zero_le _
theorem zUg {n:Nat}{f:Nat→Nat}:W n f 0=0:=zYw fun i _=>by simp
theorem W_le {n:Nat}{f:Nat→Nat}{a:Nat}:W n f a≤sm n f:=zWR fun i _=>by
 show (if a.testBit i=true then f i else 0)≤f i
 split<;>lia
theorem z5d {n:Nat}{f:Nat→Nat}:W n f (2 ^ n-1)=sm n f:=yW fun i hi=>by
 show (if (2 ^ n-1).testBit i=true then f i else 0)=f i
 rw [Nat.testBit_two_pow_sub_one]
 simp [hi]
theorem zRf {n:Nat}{f:Nat→Nat}{a c z:Nat} (hc:c < n):W n (upd f c z) a=W n (upd f c 0) a+(if a.testBit c=true then z else 0):=by
 unfold W
 rw [qR (f:=fun i=>if a.testBit i=true then upd f c z i else 0) hc]
 have e:sm n (upd (fun i=>if a.testBit i=true then upd f c z i else 0) c 0)=sm n fun i=>if a.testBit i=true then upd f c 0 i else 0:=yW fun i _=>by
  unfold upd
  by_cases q:i=c
  ·simp only [if_pos q]
   split<;>rfl
  ·simp only [if_neg q]
 rw [e]
 simp only [qT]
theorem z2v {f:Nat→Nat}{c:Nat}:upd f c (f c)=f:=by
 funext u
 unfold upd
 by_cases q:u=c
 ·rw [if_pos q,q]
 ·rw [if_neg q]
theorem zWH {n:Nat}{f:Nat→Nat}{a c:Nat} (hc:c < n):W n f a=W n (upd f c 0) a+(if a.testBit c=true then f c else 0):=by
 have h:=zRf (f:=f) (a:=a) (z:=f c) hc
 rw [z2v] at h
 exact h
theorem z0X {n:Nat}{f:Nat→Nat}{a b c:Nat} (h:∀i,i≠c→a.testBit i=b.testBit i):W n (upd f c 0) a=W n (upd f c 0) b:=yW fun i _=>by
 by_cases q:i=c
 ·subst q
  simp only [qT]
  split<;>split<;>rfl
 ·show (if a.testBit i=true then _ else _)=if b.testBit i=true then _ else _
  rw [h i q]
theorem zRo (a c:Nat):∃b:Nat,b.testBit c=false∧∀i,i≠c→b.testBit i=a.testBit i:=by
 by_cases e:a.testBit c=true
 ·refine ⟨a ^^^ 2 ^ c,?_,fun i hi=>?_⟩
  ·rw [Nat.testBit_xor,e,Nat.testBit_two_pow]
   simp
  ·rw [Nat.testBit_xor,Nat.testBit_two_pow]
   have:¬c=i:=fun q=>hi q.symm
   simp [this]
 ·exact ⟨a,by simpa using e,fun _ _=>rfl⟩
def Rm (n m:Nat) (rate:Nat→Nat→Nat) (cap:Nat→Nat) (a:Nat):Nat:=sm m fun t=>min (cap t) (W n (fun c=>rate c t) a)
def Rx (n m:Nat) (rate:Nat→Nat→Nat) (cap:Nat→Nat) (t a:Nat):Nat:=sm m (upd (fun u=>min (cap u) (W n (fun c=>rate c u) a)) t 0)
def Fe (n m:Nat) (need:Nat→Nat) (rate:Nat→Nat→Nat) (cap:Nat→Nat):Prop:=∀a,W n need a≤Rm n m rate cap a
theorem x8 {n m:Nat}{rate:Nat→Nat→Nat}{cap:Nat→Nat}{a t:Nat} (ht:t < m):Rm n m rate cap a=Rx n m rate cap t a+min (cap t) (W n (fun c=>rate c t) a):=qR ht
theorem z1S {n m:Nat}{rate:Nat→Nat→Nat}{cap:Nat→Nat}{a t v:Nat}:Rx n m rate (upd cap t v) t a=Rx n m rate cap t a:=yW fun i _=>by
 unfold upd
 by_cases q:i=t
 ·simp only [if_pos q]
 ·simp only [if_neg q]
theorem z1g {n m:Nat}{rate:Nat→Nat→Nat}{cap:Nat→Nat}{a b:Nat}:Rm n m rate cap (a ||| b)+Rm n m rate cap (a &&& b)≤Rm n m rate cap a+Rm n m rate cap b:=by
 unfold Rm
 rw [←zUI,←zUI]
 refine zWR fun t _=>?_
 have h1:=zWw (n:=n) (f:=fun c=>rate c t) (a:=a) (b:=b)
 have h2:W n (fun c=>rate c t) a≤W n (fun c=>rate c t) (a ||| b):=zVS fun c _ h=>by rw [Nat.testBit_or,h];rfl
 have h3:W n (fun c=>rate c t) b≤W n (fun c=>rate c t) (a ||| b):=zVS fun c _ h=>by rw [Nat.testBit_or,h,Bool.or_true]
 lia
theorem zQ6 {n m:Nat}{rate:Nat→Nat→Nat}{cap:Nat→Nat}{a:Nat}:Rm n m rate cap a≤sm m cap:=zWR fun _ _=>Nat.min_le_left _ _
theorem z3O {n m:Nat}{rate:Nat→Nat→Nat}{cap cap':Nat→Nat}{a:Nat} (h:∀t,t < m→cap t≤cap' t):Rm n m rate cap a≤Rm n m rate cap' a:=zWR fun t ht=>by
 have:=h t ht
 show min (cap t) _≤min (cap' t) _
 lia
theorem z1V {n m:Nat}{rate:Nat→Nat→Nat}{cap:Nat→Nat}:Rm n m rate cap 0=0:=zYw fun t _=>by
 rw [zUg]
 exact Nat.min_zero _
theorem z1x {n m:Nat}{rate:Nat→Nat→Nat}{cap:Nat→Nat}{t:Nat}:Rx n m rate cap t 0=0:=zYw fun i _=>by
 unfold upd
 split
 ·rfl
 ·show min (cap i) (W n (fun c=>rate c i) 0)=0
  rw [zUg]
  exact Nat.min_zero _
structure IsL (n m:Nat) (need:Nat→Nat) (rate:Nat→Nat→Nat) (cap:Nat→Nat) (t v:Nat):Prop where
 up:∀a,W n need a≤Rx n m rate cap t a+v
 at_:∃a,W n need a=Rx n m rate cap t a+v
section
variable {n m:Nat}{need:Nat→Nat}{rate:Nat→Nat→Nat}{cap:Nat→Nat}
theorem IsL.le_cap {t v:Nat} (ht:t < m) (F:Fe n m need rate cap) (L:IsL n m need rate cap t v):v≤cap t:=by
 obtain ⟨a,e⟩:=L.at_
 have h:=F a
 rw [x8 ht] at h
 lia
theorem IsL.fe {t v:Nat} (ht:t < m) (F:Fe n m need rate cap) (L:IsL n m need rate cap t v):Fe n m need rate (upd cap t v):=fun a=>by
 have h:=F a
 rw [x8 ht] at h
 rw [x8 ht,z1S,qT]
 have:=L.up a
 lia
def Ti (n m:Nat) (need:Nat→Nat) (rate:Nat→Nat→Nat) (cap:Nat→Nat) (t:Nat):Prop:=∃a,W n need a=Rm n m rate cap a∧cap t≤W n (fun c=>rate c t) a
theorem IsL.ti {t v:Nat} (ht:t < m) (F:Fe n m need rate cap) (L:IsL n m need rate cap t v):Ti n m need rate (upd cap t v) t:=by
 obtain ⟨a,e⟩:=L.at_
 have h:=L.fe ht F a
 rw [x8 ht,z1S,qT] at h
 refine ⟨a,?_,?_⟩
 ·rw [x8 ht,z1S,qT]
  lia
 ·rw [qT]
  lia
theorem Ti.keep {t u v:Nat} (hu:u≠t) (hv:v≤cap u) (F:Fe n m need rate (upd cap u v)) (T:Ti n m need rate cap t):Ti n m need rate (upd cap u v) t:=by
 obtain ⟨a,e,l⟩:=T
 have h:=F a
 have h2:Rm n m rate (upd cap u v) a≤Rm n m rate cap a:=z3O fun i _=>by
  unfold upd
  by_cases q:i=u
  ·rw [if_pos q,q]
   exact hv
  ·rw [if_neg q]
   exact Nat.le_refl _
 exact ⟨a,by lia,by rw [zXS (fun q=>hu q.symm)];exact l⟩
theorem z2T (F:Fe n m need rate cap):∀j,j≤m→(∀t,t < j→Ti n m need rate cap t)→∃a,W n need a=Rm n m rate cap a∧∀t,t < j→cap t≤W n (fun c=>rate c t) a
 | 0,_,_=>⟨0,by rw [zUg,z1V],fun t ht=>by lia⟩
 | j+1,hj,h=>by
  obtain ⟨a,e,l⟩:=z2T F j (by lia) fun t ht=>h t (by lia)
  obtain ⟨b,e2,l2⟩:=h j (by lia)
  have h1:=F (a ||| b)
  have h2:=F (a &&& b)
  have h3:=zWw (n:=n) (f:=need) (a:=a) (b:=b)
  have h4:=z1g (n:=n) (m:=m) (rate:=rate) (cap:=cap) (a:=a) (b:=b)
  refine ⟨a ||| b,by lia,fun t ht=>?_⟩
  have ma:W n (fun c=>rate c t) a≤W n (fun c=>rate c t) (a ||| b):=zVS fun c _ h=>by rw [Nat.testBit_or,h];rfl
  have mb:W n (fun c=>rate c t) b≤W n (fun c=>rate c t) (a ||| b):=zVS fun c _ h=>by rw [Nat.testBit_or,h,Bool.or_true]
  by_cases q:t=j
  ·subst q
   lia
  ·have:=l t (by lia)
   lia
theorem z4Z (F:Fe n m need rate cap) (h:∀t,t < m→Ti n m need rate cap t):sm m cap=sm n need:=by
 obtain ⟨a,e,l⟩:=z2T F m (Nat.le_refl _) h
 have h1:Rm n m rate cap a=sm m cap:=yW fun t ht=>Nat.min_eq_left (l t ht)
 have h2:W n need a≤sm n need:=W_le
 have h3:=F (2 ^ n-1)
 rw [z5d] at h3
 have h4:Rm n m rate cap (2 ^ n-1)≤sm m cap:=zQ6
 lia
def zYL (rate:Nat→Nat→Nat) (c t:Nat):Nat→Nat→Nat:=fun i u=>if i=c∧u=t then 0 else rate i u
def zZm (rate:Nat→Nat→Nat) (c:Nat):Nat→Nat→Nat:=fun i u=>if i=c then 0 else rate i u
theorem z1I {c u:Nat}:(fun i=>zZm rate c i u)=upd (fun i=>rate i u) c 0:=rfl
theorem z0T {c t u:Nat}:(fun i=>zYL rate c t i u)=upd (fun i=>rate i u) c (if u=t then 0 else rate c u):=by
 funext i
 unfold zYL upd
 by_cases q:i=c
 ·subst q
  simp only [true_and,if_true]
 ·simp only [q,false_and,if_false]
theorem W1 {c t u a:Nat} (hc:c < n):W n (fun i=>zYL rate c t i u) a=W n (fun i=>zZm rate c i u) a+(if a.testBit c=true then (if u=t then 0 else rate c u) else 0):=by
 rw [z0T,z1I]
 exact zRf hc
theorem Wr {c u a:Nat} (hc:c < n):W n (fun i=>rate i u) a=W n (fun i=>zZm rate c i u) a+(if a.testBit c=true then rate c u else 0):=zWH hc
theorem zRx {c t a:Nat}{z:Nat} (hc:c < n) (h:a.testBit c=false):Rx n m (zYL rate c t) (upd cap t z) t a=Rx n m (zZm rate c) cap t a:=yW fun i _=>by
 unfold upd
 by_cases q:i=t
 ·simp only [if_pos q]
 ·simp only [if_neg q]
  rw [W1 hc,h]
  simp
theorem z1N {c t a:Nat} (hc:c < n) (h:a.testBit c=false):Rx n m rate cap t a=Rx n m (zZm rate c) cap t a:=yW fun i _=>by
 unfold upd
 by_cases q:i=t
 ·simp only [if_pos q]
 ·simp only [if_neg q]
  rw [Wr hc,h]
  simp
theorem z2U {c t a:Nat}{z:Nat} (hc:c < n) (h:a.testBit c=true):Rx n m (zYL rate c t) (upd cap t z) t a=Rx n m rate cap t a:=yW fun i _=>by
 unfold upd
 by_cases q:i=t
 ·simp only [if_pos q]
 ·simp only [if_neg q]
  rw [W1 hc,Wr (rate:=rate) (c:=c) hc,h,if_neg q]
theorem zTA {c t a b:Nat} (h:∀i,i≠c→a.testBit i=b.testBit i):Rx n m (zZm rate c) cap t a=Rx n m (zZm rate c) cap t b:=yW fun i _=>by
 unfold upd
 by_cases q:i=t
 ·simp only [if_pos q]
 ·simp only [if_neg q]
  have e:W n (fun j=>zZm rate c j i) a=W n (fun j=>zZm rate c j i) b:=z0X h
  rw [e]
theorem z5o {t a:Nat} (ht:t < m):Rx n m rate cap t a+cap t≤sm m cap:=by
 rw [qR (f:=cap) ht]
 have:Rx n m rate cap t a≤sm m (upd cap t 0):=zWR fun i _=>by
  unfold upd
  by_cases q:i=t
  ·simp only [if_pos q];exact Nat.le_refl _
  ·simp only [if_neg q];exact Nat.min_le_left _ _
 lia
theorem zSg {c t v:Nat} (hc:c < n) (ht:t < m) (F:Fe n m need rate cap) (L:IsL n m (upd need c 0) (zZm rate c) cap t v):v≤cap t:=by
 obtain ⟨a,e⟩:=L.at_
 obtain ⟨b,hb,h⟩:=zRo a c
 have h1:=F b
 rw [x8 ht,zWH hc,hb,z1N hc hb,zTA h,z0X h] at h1
 simp at h1
 lia
theorem zVd {c t v:Nat} (hc:c < n) (ht:t < m) (S:sm m cap=sm n need) (L:IsL n m (upd need c 0) (zZm rate c) cap t v):cap t-v≤need c:=by
 have h:=L.up (2 ^ n-1)
 rw [z5d] at h
 have h1:=qR (f:=need) hc
 have h2:=z5o (n:=n) (rate:=zZm rate c) (cap:=cap) (a:=2 ^ n-1) ht
 lia
theorem z3d {c t v y:Nat} (hc:c < n) (ht:t < m) (L:IsL n m (upd need c 0) (zZm rate c) cap t v) (hy:cap t-v < y) (hy2:y≤cap t):¬Fe n m (upd need c (need c-y)) (zYL rate c t) (upd cap t (cap t-y)):=fun F=>by
 obtain ⟨a,e⟩:=L.at_
 obtain ⟨b,hb,h⟩:=zRo a c
 have h1:=F b
 rw [x8 ht,zRf hc,hb,zRx hc hb,zTA h,z0X h,qT] at h1
 simp only [Bool.false_eq_true,if_false,Nat.add_zero] at h1
 lia
theorem z3N {c t v x:Nat} (hc:c < n) (ht:t < m) (F:Fe n m need rate cap) (S:sm m cap=sm n need) (L:IsL n m (upd need c 0) (zZm rate c) cap t v) (hx:x=min (rate c t) (cap t-v)):
  Fe n m (upd need c (need c-x)) (zYL rate c t) (upd cap t (cap t-x)):=by
 have hv:=zSg hc ht F L
 have hn:=zVd hc ht S L
 have off:∀a:Nat,a.testBit c=false→W n (upd need c (need c-x)) a≤Rm n m (zYL rate c t) (upd cap t (cap t-x)) a:=fun a ha=>by
  have h1:=F a
  rw [x8 ht,zWH hc,ha,z1N hc ha,Wr (rate:=rate) (c:=c) hc,ha] at h1
  rw [x8 ht,zRf hc,ha,zRx hc ha,qT,W1 hc,ha]
  have h2:=L.up a
  simp only [Bool.false_eq_true,if_false,Nat.add_zero] at h1 ⊢
  lia
 intro a
 by_cases ha:a.testBit c=true
 ·by_cases hr:x=rate c t
  ·have h1:=F a
   rw [x8 ht,zWH hc,ha,Wr (rate:=rate) (c:=c) hc,ha] at h1
   rw [x8 ht,zRf hc,ha,z2U hc ha,qT,W1 hc,ha]
   simp only [if_true] at h1 ⊢
   lia
  ·have hx':x=cap t-v:=by lia
   obtain ⟨B,e⟩:=L.at_
   obtain ⟨b,hb,h⟩:=zRo B c
   have hF:=F b
   rw [x8 ht,zWH hc,hb,z1N hc hb,Wr (rate:=rate) (c:=c) hc,hb] at hF
   have e':W n (upd need c 0) b=Rx n m (zZm rate c) cap t b+v:=by
    rw [z0X h,zTA h]
    exact e
   simp only [Bool.false_eq_true,if_false,Nat.add_zero] at hF
   have hT:v≤W n (fun i=>zZm rate c i t) b:=by lia
   have tight:W n (upd need c (need c-x)) b=Rm n m (zYL rate c t) (upd cap t (cap t-x)) b:=by
    rw [x8 ht,zRf hc,hb,zRx hc hb,qT,W1 hc,hb]
    simp only [Bool.false_eq_true,if_false,Nat.add_zero]
    lia
   have hand:(a &&& b).testBit c=false:=by rw [Nat.testBit_and,hb,Bool.and_false]
   have hor:(a ||| b).testBit c=true:=by rw [Nat.testBit_or,ha,Bool.true_or]
   have h1:=off (a &&& b) hand
   have h2:W n (upd need c (need c-x)) (a ||| b)≤Rm n m (zYL rate c t) (upd cap t (cap t-x)) (a ||| b):=by
    have h3:=F (a ||| b)
    rw [x8 ht,zWH hc,hor] at h3
    rw [x8 ht,zRf hc,hor,z2U hc hor,qT,W1 hc,hor]
    have h4:W n (fun i=>zZm rate c i t) b≤W n (fun i=>zZm rate c i t) (a ||| b):=zVS fun c _ h=>by rw [Nat.testBit_or,h,Bool.or_true]
    simp only [if_true] at h3 ⊢
    lia
   have h5:=zWw (n:=n) (f:=upd need c (need c-x)) (a:=a) (b:=b)
   have h6:=z1g (n:=n) (m:=m) (rate:=zYL rate c t) (cap:=upd cap t (cap t-x)) (a:=a) (b:=b)
   lia
 ·exact off a (by simpa using ha)
end
open GarLoad
def nd (k:Task):Nat→Nat:=fun c=>k.needs.getD c 0
def rt (k:Task):Nat→Nat→Nat:=fun c t=>(k.rates.getD c []).getD t 0
def cp (k:Task):Nat→Nat:=fun t=>k.caps.getD t 0
structure WF (k:Task):Prop where
 len:k.rates.length=k.needs.length
 row:∀r∈k.rates,r.length=k.caps.length
theorem j1 {x:Nat}{l:List Nat}:sumOf (x::l)=x+sumOf l:=rfl
theorem zSf:sumOf []=0:=rfl
theorem zYZ:∀{l r:List Nat},sumOf (l++r)=sumOf l+sumOf r
 | [],r=>by rw [List.nil_append,zSf,Nat.zero_add]
 | x::l,r=>by rw [List.cons_append,j1,j1,zYZ,Nat.add_assoc]
theorem uQ:∀(l:List Nat),sumOf l=sm l.length (fun i=>l.getD i 0)
 | []=>rfl
 | x::l=>by
  rw [zlc,z0z,j1,uQ l]
  rfl
theorem zYS {α:Type} (p:α→Bool) (f:α→Nat):∀l:List α,sumOf ((l.filter p).map f)=sumOf (l.map fun x=>if p x=true then f x else 0)
 | []=>rfl
 | x::l=>by
  have ih:=zYS p f l
  by_cases h:p x=true
  ·rw [List.filter_cons_of_pos h,List.map_cons,List.map_cons,j1,j1,ih,if_pos h]
  ·rw [List.filter_cons_of_neg h,List.map_cons,j1,ih,if_neg h,Nat.zero_add]
theorem getD_some {α:Type}{l:List α}{i:Nat}{d x:α} (h:l[i]?=some x):l.getD i d=x:=by
 rw [List.getD_eq_getElem?_getD,h]
 rfl
theorem vX {α:Type}{l:List α}{i:Nat}{d:α} (h:i < l.length):l.getD i d=l[i]:=getD_some (zge h)
theorem v3 {α:Type}{l:List α}{i:Nat}{d:α} (h:l.length≤i):l.getD i d=d:=by
 rw [List.getD_eq_getElem?_getD,List.getElem?_eq_none h]
 rfl
theorem zWX {α:Type} (l:List α) (f:α→Nat) (d:α) (a:Nat):sumOf (l.zipIdx.map fun x=>if a.testBit x.2=true then f x.1 else 0)=W l.length (fun c=>f (l.getD c d)) a:=by
 rw [uQ]
 simp only [zlm,List.length_zipIdx]
 refine yW fun i hi=>?_
 have e:(l.zipIdx.map fun x=>if a.testBit x.2=true then f x.1 else 0)[i]?=some (if a.testBit i=true then f l[i] else 0):=by
  rw [zgm,List.getElem?_zipIdx,zge hi]
  simp
 rw [getD_some e]
 show _=if a.testBit i=true then f (l.getD i d) else 0
 rw [vX hi]
theorem zZ9 (k:Task) (a:Nat):wants k a=W k.needs.length (nd k) a:=zWX k.needs (fun x=>x) 0 a
theorem zQz {l m:List Nat} (h:l.length=m.length):(over l m).length=m.length:=by
 unfold over
 rw [zlm,List.length_zip,h,Nat.min_self]
theorem z0q {l m:List Nat} (h:l.length=m.length) (t:Nat):(over l m).getD t 0=l.getD t 0+m.getD t 0:=by
 by_cases ht:t < m.length
 ·have hl:t < l.length:=by lia
  have e:(over l m)[t]?=some (l[t]+m[t]):=by
   unfold over
   rw [zgm,zge (by rw [List.length_zip];lia),List.getElem_zip]
   rfl
  rw [getD_some e,vX hl,vX ht]
 ·rw [v3 (by rw [zQz h];lia),v3 (by lia),v3 (by lia)]
theorem zU8:∀(L:List (List Nat)) (z:List Nat),(∀r∈L,r.length=z.length)→(L.foldr over z).length=z.length∧∀t,(L.foldr over z).getD t 0=sumOf (L.map fun r=>r.getD t 0)+z.getD t 0
 | [],z,_=>⟨rfl,fun t=>by rw [List.map_nil,zSf,Nat.zero_add];rfl⟩
 | r::L,z,h=>by
  obtain ⟨h1,h2⟩:=zU8 L z fun r hr=>h r (zmc _ hr)
  have hr:=h r List.mem_cons_self
  have e:r.length=(L.foldr over z).length:=by lia
  refine ⟨by rw [List.foldr_cons,zQz e,h1],fun t=>?_⟩
  rw [List.foldr_cons,z0q e,h2,List.map_cons,j1,Nat.add_assoc]
theorem zTu {α:Type}{l:List α}{x:α×Nat} (h:x∈l.zipIdx):x.1∈l:=by
 obtain ⟨a,i⟩:=x
 have:=List.mem_zipIdx_iff_getElem?.mp h
 exact List.mem_of_getElem? this
theorem z0d {k:Task} (w:WF k) (a:Nat):(takes k a).length=k.caps.length∧∀t,(takes k a).getD t 0=W k.needs.length (fun c=>rt k c t) a:=by
 unfold takes
 obtain ⟨h1,h2⟩:=zU8 ((k.rates.zipIdx.filter fun (x:List Nat×Nat)=>a.testBit x.2).map fun (x:List Nat×Nat)=>x.1) (k.caps.map fun (_:Nat)=>0) (fun r hr=>by
  obtain ⟨x,hx,rfl⟩:=List.mem_map.mp hr
  rw [zlm]
  exact w.row _ (zTu (List.mem_filter.mp hx).1))
 rw [zlm] at h1
 refine ⟨h1,fun t=>?_⟩
 rw [h2,List.map_map]
 have e0:(k.caps.map fun (_:Nat)=>0).getD t 0=0:=by
  by_cases ht:t < k.caps.length
  ·exact getD_some (by rw [zgm,zge ht];rfl)
  ·exact v3 (by rw [zlm];lia)
 rw [e0,Nat.add_zero]
 refine (zYS (fun (x:List Nat×Nat)=>a.testBit x.2) (fun x=>x.1.getD t 0) _).trans ?_
 rw [←w.len]
 exact zWX k.rates (fun r=>r.getD t 0) [] a
theorem zT6 {k:Task} (w:WF k) (a:Nat):(gets k a).length=k.caps.length∧∀t,(gets k a).getD t 0=min (cp k t) (W k.needs.length (fun c=>rt k c t) a):=by
 obtain ⟨h1,h2⟩:=z0d w a
 have hl:(gets k a).length=k.caps.length:=by
  unfold gets
  rw [zlm,List.length_zip,h1,Nat.min_self]
 refine ⟨hl,fun t=>?_⟩
 by_cases ht:t < k.caps.length
 ·have e:(gets k a)[t]?=some (min k.caps[t] ((takes k a)[t]'(by lia))):=by
   unfold gets
   rw [zgm,zge (by rw [List.length_zip];lia),List.getElem_zip]
   rfl
  rw [getD_some e,←h2 t,vX (by lia:t < (takes k a).length)]
  unfold cp
  rw [vX ht]
 ·rw [v3 (by lia)]
  unfold cp
  rw [v3 (by lia),Nat.zero_min]
theorem zWQ {k:Task} (w:WF k) (a:Nat):room k a=Rm k.needs.length k.caps.length (rt k) (cp k) a:=by
 obtain ⟨h1,h2⟩:=zT6 w a
 unfold room
 rw [uQ,h1]
 exact yW fun t _=>h2 t
theorem zY0 {k:Task} (w:WF k) (a:Nat) (f:Nat→Bool):roomIn k a f=sm k.caps.length fun t=>if f t=true then min (cp k t) (W k.needs.length (fun c=>rt k c t) a) else 0:=by
 obtain ⟨h1,h2⟩:=zT6 w a
 unfold roomIn
 rw [uQ,zlm,List.length_zipIdx,h1]
 refine yW fun t ht=>?_
 rw [←h2 t]
 have e:((gets k a).zipIdx.map fun (x:Nat×Nat)=>if f x.2=true then x.1 else 0)[t]?=some (if f t=true then (gets k a)[t]'(by lia) else 0):=by
  rw [zgm,List.getElem?_zipIdx,zge (by lia:t < (gets k a).length)]
  simp
 rw [getD_some e,vX (by lia:t < (gets k a).length)]
theorem z0n {k:Task} (w:WF k) (a t:Nat):roomIn k a (fun u=>u != t)=Rx k.needs.length k.caps.length (rt k) (cp k) t a:=by
 rw [zY0 w]
 refine yW fun u _=>?_
 unfold upd
 by_cases q:u=t
 ·simp only [q,bne_self_eq_false,Bool.false_eq_true,if_false,if_true]
 ·have:(u != t)=true:=by simpa using q
  simp only [this,if_true,if_neg q]
theorem z1o {n:Nat}{f:Nat→Nat}{a:Nat}:W n f (a % 2 ^ n)=W n f a:=z4W fun c hc=>by
 rw [Nat.testBit_mod_two_pow]
 simp [hc]
theorem z43 {n m:Nat}{rate:Nat→Nat→Nat}{cap:Nat→Nat}{a:Nat}:Rm n m rate cap (a % 2 ^ n)=Rm n m rate cap a:=yW fun t _=>by
 show min _ (W n _ _)=min _ (W n _ _)
 rw [z1o]
theorem z3a {n m:Nat}{rate:Nat→Nat→Nat}{cap:Nat→Nat}{a t:Nat}:Rx n m rate cap t (a % 2 ^ n)=Rx n m rate cap t a:=yW fun u _=>by
 unfold upd
 split
 ·rfl
 ·show min _ (W n _ _)=min _ (W n _ _)
  rw [z1o]
theorem xS {k:Task} (w:WF k):feasible k=true↔Fe k.needs.length k.caps.length (nd k) (rt k) (cp k):=by
 unfold feasible sets
 rw [List.all_eq_true]
 constructor
 ·intro h a
  have h1:=h (a % 2 ^ k.needs.length) (List.mem_range.mpr (Nat.mod_lt _ (Nat.two_pow_pos _)))
  rw [zde,zZ9,zWQ w,z1o,z43] at h1
  exact h1
 ·intro h a _
  rw [zde,zZ9,zWQ w]
  exact h a
theorem zWk (f:Nat→Nat):∀l:List Nat,l≠[]→∃b,greatestBy f l=some b∧b∈l∧∀a∈l,f a≤f b
 | [],h=>absurd rfl h
 | a::r,_=>by
  unfold greatestBy
  by_cases hr:r=[]
  ·subst hr
   exact ⟨a,rfl,List.mem_cons_self,fun x hx=>by
    rw [List.mem_singleton] at hx
    rw [hx]
    exact Nat.le_refl _⟩
  ·obtain ⟨b,e,hb,hm⟩:=zWk f r hr
   rw [e]
   by_cases q:f a < f b
   ·refine ⟨b,by simp only [q,if_true],zmc _ hb,fun x hx=>?_⟩
    rcases List.mem_cons.mp hx with rfl|hx
    ·lia
    ·exact hm x hx
   ·refine ⟨a,by simp only [q,if_false],List.mem_cons_self,fun x hx=>?_⟩
    rcases List.mem_cons.mp hx with rfl|hx
    ·exact Nat.le_refl _
    ·have:=hm x hx
     lia
theorem z3B (k:Task):sets k≠[]:=by
 unfold sets
 intro h
 have:=congrArg List.length h
 rw [List.length_range,List.length_nil] at this
 have:=Nat.two_pow_pos k.needs.length
 lia
theorem zRQ (k:Task) (f:Nat→Bool):forcer k f∈sets k∧∀a∈sets k,beyond k f a≤beyond k f (forcer k f):=by
 obtain ⟨b,e,hb,hm⟩:=zWk (beyond k f) (sets k) (z3B k)
 unfold forcer
 rw [e]
 exact ⟨hb,hm⟩
theorem zYi {k:Task} (w:WF k) (t:Nat):IsL k.needs.length k.caps.length (nd k) (rt k) (cp k) t (leastAt k t):=by
 obtain ⟨h1,h2⟩:=zRQ k (fun u=>u != t)
 have hb:∀a,beyond k (fun u=>u != t) a=W k.needs.length (nd k) a-Rx k.needs.length k.caps.length (rt k) (cp k) t a:=fun a=>by
  unfold beyond
  rw [zZ9,z0n w]
 have hup:∀a,W k.needs.length (nd k) a≤Rx k.needs.length k.caps.length (rt k) (cp k) t a+leastAt k t:=fun a=>by
  have h:=h2 (a % 2 ^ k.needs.length) (List.mem_range.mpr (Nat.mod_lt _ (Nat.two_pow_pos _)))
  rw [hb,z1o,z3a] at h
  unfold leastAt
  lia
 refine ⟨hup,?_⟩
 by_cases q:leastAt k t=0
 ·exact ⟨0,by rw [q,zUg,z1x]⟩
 ·refine ⟨forcer k fun u=>u != t,?_⟩
  have e:leastAt k t=_:=hb (forcer k fun u=>u != t)
  lia
theorem IsL.uniq {n m:Nat}{need:Nat→Nat}{rate:Nat→Nat→Nat}{cap:Nat→Nat}{t v v':Nat} (a:IsL n m need rate cap t v) (b:IsL n m need rate cap t v'):v=v':=by
 obtain ⟨x,hx⟩:=a.at_
 obtain ⟨y,hy⟩:=b.at_
 have:=b.up x
 have:=a.up y
 lia
theorem z4I {k:Task}{t v:Nat} (ht:t < k.caps.length):cp { k with caps:=k.caps.set t v }=upd (cp k) t v:=by
 funext u
 unfold cp upd
 by_cases q:u=t
 ·subst q
  rw [if_pos rfl]
  exact getD_some (List.getElem?_set_self ht)
 ·rw [if_neg q]
  show (k.caps.set t v).getD u 0=k.caps.getD u 0
  rw [List.getD_eq_getElem?_getD,List.getD_eq_getElem?_getD,List.getElem?_set_ne (fun e=>q e.symm)]
theorem WF.set {k:Task}{t v:Nat} (w:WF k):WF { k with caps:=k.caps.set t v }:=⟨w.len,fun r hr=>by
 rw [w.row r hr]
 exact (List.length_set).symm⟩
def low (y:Task) (t:Nat):Task:={ y with caps:=y.caps.set t (leastAt y t) }
structure Lowd (k y:Task) (done:List Nat):Prop where
 wf:WF y
 needs:y.needs=k.needs
 rates:y.rates=k.rates
 len:y.caps.length=k.caps.length
 fe:Fe y.needs.length y.caps.length (nd y) (rt y) (cp y)
 ti:∀t∈done,Ti y.needs.length y.caps.length (nd y) (rt y) (cp y) t
theorem Lowd.step {k y:Task}{done:List Nat}{t:Nat} (L:Lowd k y done) (ht:t < k.caps.length):Lowd k (low y t) (t::done):=by
 have ht':t < y.caps.length:=by rw [L.len];exact ht
 have hl:=zYi L.wf t
 have e:cp (low y t)=upd (cp y) t (leastAt y t):=z4I ht'
 have en:nd (low y t)=nd y:=rfl
 have er:rt (low y t)=rt y:=rfl
 have el:(low y t).caps.length=y.caps.length:=List.length_set
 have fe:Fe (low y t).needs.length (low y t).caps.length (nd (low y t)) (rt (low y t)) (cp (low y t)):=by
  rw [e,en,er,el]
  exact hl.fe ht' L.fe
 refine ⟨L.wf.set,L.needs,L.rates,el.trans L.len,fe,fun u hu=>?_⟩
 rw [e,en,er,el]
 by_cases q:u=t
 ·subst q
  exact hl.ti ht' L.fe
 ·rcases List.mem_cons.mp hu with h|h
  ·exact absurd h q
  ·refine (L.ti u h).keep (fun e=>q e.symm) (hl.le_cap ht' L.fe) ?_
   exact hl.fe ht' L.fe
theorem Lowd.all {k:Task}:∀(l:List Nat) {y:Task}{done:List Nat},Lowd k y done→(∀t∈l,t < k.caps.length)→Lowd k (l.foldl low y) (l.reverse++done)
 | [],y,done,L,_=>L
 | t::l,y,done,L,h=>by
  have:=Lowd.all l (L.step (h t List.mem_cons_self)) fun u hu=>h u (zmc _ hu)
  rw [List.reverse_cons,zaa]
  exact this
theorem zUO (p:List Nat) (t:Nat):∀(l:List Nat) (u:Nat),u∈putBy p t l↔u=t∨u∈l
 | [],u=>by
  unfold putBy
  rw [List.mem_singleton]
  simp
 | x::r,u=>by
  unfold putBy
  split
  ·rw [List.mem_cons]
  ·rw [List.mem_cons,zUO p t r u,List.mem_cons]
   constructor
   ·rintro (h|h|h)
    ·exact .inr (.inl h)
    ·exact .inl h
    ·exact .inr (.inr h)
   ·rintro (h|h|h)
    ·exact .inr (.inl h)
    ·exact .inl h
    ·exact .inr (.inr h)
theorem zZo (p:List Nat):∀(l:List Nat) (u:Nat),u∈l.foldr (putBy p) []↔u∈l
 | [],u=>Iff.rfl
 | x::r,u=>by rw [List.foldr_cons,zUO,zZo p r u,List.mem_cons]
theorem u7 (p:List Nat) (u:Nat):u∈byPrice p↔u < p.length:=by
 unfold byPrice
 rw [zZo,List.mem_range]
theorem zQS {k:Task}{p:List Nat} (w:WF k) (hp:p.length=k.caps.length) (F:feasible k=true):Lowd k ((byPrice p).foldl low k) ((byPrice p).reverse++[]):=
 Lowd.all (byPrice p) (done:=[]) ⟨w,rfl,rfl,rfl,(xS w).mp F,fun t h=>by cases h⟩ fun t h=>by
  rw [u7] at h
  lia
theorem zTl (k:Task) (p:List Nat):loadsOf k p=((byPrice p).foldl low k).caps:=rfl
theorem z3f {k y:Task} (hn:y.needs=k.needs) (hr:y.rates=k.rates):y={ k with caps:=y.caps }:=by
 cases y
 cases k
 cases hn
 cases hr
 rfl
theorem zRk {k:Task}{p:List Nat} (w:WF k) (hp:p.length=k.caps.length) (F:feasible k=true):
  WF { k with caps:=loadsOf k p }∧(loadsOf k p).length=k.caps.length∧feasible { k with caps:=loadsOf k p }=true∧sumOf (loadsOf k p)=sumOf k.needs:=by
 have L:=zQS w hp F
 have e:=z3f L.needs L.rates
 rw [←zTl] at e
 have wf:=L.wf
 have fe:=L.fe
 have ti:=L.ti
 have len:=L.len
 rw [e] at wf fe ti len
 refine ⟨wf,len,(xS wf).mpr fe,?_⟩
 have h:=z4Z fe fun t ht=>ti t (by
  rw [List.append_nil,List.mem_reverse,u7,hp,←len]
  exact ht)
 rw [uQ,uQ]
 exact h
open GarLoad
theorem z3b {f:Nat→Nat}{j:Nat}:∀{r:Nat},sm (j+r) f=sm j f+sm r (fun i=>f (j+i))
 | 0=>by simp only [sm,Nat.add_zero]
 | r+1=>by
  have ih:=z3b (f:=f) (j:=j) (r:=r)
  show sm (j+r) f+f (j+r)=_
  simp only [sm]
  lia
theorem z08 {n j:Nat}{f:Nat→Nat}{a:Nat} (hj:j≤n) (h:∀i,i < j→f i=0):W n f a=W (n-j) (fun i=>f (j+i)) (a >>> j):=by
 obtain ⟨r,rfl⟩:∃r,n=j+r:=⟨n-j,by lia⟩
 unfold W
 rw [z3b,zYw (n:=j) (fun i hi=>by rw [h i hi];split<;>rfl),Nat.zero_add,Nat.add_sub_cancel_left]
 refine yW fun i _=>?_
 rw [Nat.testBit_shiftRight]
theorem z0y {n m j:Nat}{need:Nat→Nat}{rate:Nat→Nat→Nat}{cap:Nat→Nat}{t v:Nat} (hj:j≤n) (h1:∀i,i < j→need i=0) (h2:∀i,i < j→∀u,rate i u=0)
  (L:IsL (n-j) m (fun i=>need (j+i)) (fun i=>rate (j+i)) cap t v):IsL n m need rate cap t v:=by
 have eW:∀a,W n need a=W (n-j) (fun i=>need (j+i)) (a >>> j):=fun a=>z08 hj h1
 have eR:∀a,Rx n m rate cap t a=Rx (n-j) m (fun i=>rate (j+i)) cap t (a >>> j):=fun a=>yW fun u _=>by
  unfold upd
  split
  ·rfl
  ·show min _ (W n _ _)=min _ (W (n-j) _ _)
   rw [z08 hj fun i hi=>h2 i hi u]
 refine ⟨fun a=>?_,?_⟩
 ·rw [eW,eR]
  exact L.up _
 ·obtain ⟨b,e⟩:=L.at_
  refine ⟨b <<< j,?_⟩
  rw [eW,eR,Nat.shiftLeft_shiftRight]
  exact e
theorem z0B {n m:Nat}{need need':Nat→Nat}{rate rate':Nat→Nat→Nat}{cap:Nat→Nat}{t v:Nat} (h1:∀i,i < n→need i=need' i) (h2:∀i,i < n→∀u,rate i u=rate' i u)
  (L:IsL n m need rate cap t v):IsL n m need' rate' cap t v:=by
 have eW:∀a,W n need a=W n need' a:=fun a=>zZT h1
 have eR:∀a,Rx n m rate cap t a=Rx n m rate' cap t a:=fun a=>yW fun u _=>by
  unfold upd
  split
  ·rfl
  ·show min _ (W n _ _)=min _ (W n _ _)
   rw [zZT fun i hi=>h2 i hi u]
 refine ⟨fun a=>?_,?_⟩
 ·rw [←eW,←eR]
  exact L.up a
 ·obtain ⟨a,e⟩:=L.at_
  exact ⟨a,by rw [←eW,←eR];exact e⟩
theorem zWt {α:Type}{l:List α}{i j:Nat}{x d:α} (h:i < l.length):(l.set i x).getD j d=if j=i then x else l.getD j d:=by
 by_cases q:j=i
 ·subst q
  rw [if_pos rfl]
  exact getD_some (List.getElem?_set_self h)
 ·rw [if_neg q,List.getD_eq_getElem?_getD,List.getD_eq_getElem?_getD,List.getElem?_set_ne (fun e=>q e.symm)]
theorem zS5 {α:Type}{l:List α}{i j:Nat}{d:α}:(l.drop j).getD i d=l.getD (j+i) d:=by
 rw [List.getD_eq_getElem?_getD,List.getD_eq_getElem?_getD,List.getElem?_drop]
section
variable {k:Task}{c t x:Nat}
theorem zVH (hc:c < k.needs.length):nd (taken k c t x)=upd (nd k) c (nd k c-x):=by
 funext i
 show (k.needs.set c (k.needs.getD c 0-x)).getD i 0=_
 rw [zWt hc]
 rfl
theorem zQl (ht:t < k.caps.length):cp (taken k c t x)=upd (cp k) t (cp k t-x):=by
 funext u
 show (k.caps.set t (k.caps.getD t 0-x)).getD u 0=_
 rw [zWt ht]
 rfl
theorem zQv (w:WF k) (hc:c < k.needs.length) (ht:t < k.caps.length):rt (taken k c t x)=zYL (rt k) c t:=by
 have hc':c < k.rates.length:=by rw [w.len];exact hc
 have hrow:(k.rates.getD c []).length=k.caps.length:=by
  rw [vX hc']
  exact w.row _ (List.getElem_mem hc')
 funext i u
 show ((k.rates.set c ((k.rates.getD c []).set t 0)).getD i []).getD u 0=if i=c∧u=t then 0 else (k.rates.getD i []).getD u 0
 rw [zWt hc']
 by_cases q:i=c
 ·subst q
  rw [if_pos rfl,zWt (by lia)]
  by_cases q2:u=t
  ·rw [if_pos q2,if_pos ⟨rfl,q2⟩]
  ·rw [if_neg q2,if_neg (fun e=>q2 e.2)]
 ·rw [if_neg q,if_neg (fun e=>q e.1)]
theorem zQr (w:WF k) (hc:c < k.needs.length):WF (taken k c t x):=by
 have hc':c < k.rates.length:=by rw [w.len];exact hc
 refine ⟨?_,fun r hr=>?_⟩
 ·show (k.rates.set c _).length=(k.needs.set c _).length
  rw [List.length_set,List.length_set]
  exact w.len
 ·show r.length=(k.caps.set t _).length
  rw [List.length_set]
  have hr':r∈k.rates.set c ((k.rates.getD c []).set t 0):=hr
  rcases List.mem_or_eq_of_mem_set hr' with h|h
  ·exact w.row r h
  ·rw [h,List.length_set,vX hc']
   exact w.row _ (List.getElem_mem hc')
theorem zW2:(taken k c t x).needs.length=k.needs.length:=List.length_set
theorem zWI:(taken k c t x).caps.length=k.caps.length:=List.length_set
end
theorem zUu {P:Nat→Bool}{x:Nat} (hx:P x=true):∀N:Nat,x≤N→(∀y,x < y→y≤N→P y=false)→(List.range (N+1)).reverse.find? P=some x
 | 0,h,_=>by
  have:x=0:=by lia
  subst this
  simp [hx]
 | N+1,h,hn=>by
  rw [List.range_succ,List.reverse_append]
  show ((N+1)::(List.range (N+1)).reverse).find? P=some x
  by_cases q:x=N+1
  ·subst q
   rw [List.find?_cons_of_pos hx]
  ·rw [List.find?_cons_of_neg (by rw [hn (N+1) (by lia) (by lia)];decide)]
   exact zUu hx N (by lia) fun y h1 h2=>hn y h1 (by lia)
theorem z00 {k:Task}{c t v:Nat} (w:WF k) (hc:c < k.needs.length) (ht:t < k.caps.length) (F:feasible k=true) (S:sumOf k.caps=sumOf k.needs)
  (L:IsL k.needs.length k.caps.length (upd (nd k) c 0) (zZm (rt k) c) (cp k) t v):
  mostAt k c t=min (rt k c t) (cp k t-v)∧v≤cp k t∧feasible (taken k c t (min (rt k c t) (cp k t-v)))=true∧sumOf (taken k c t (min (rt k c t) (cp k t-v))).caps=sumOf (taken k c t (min (rt k c t) (cp k t-v))).needs:=by
 have F':=(xS w).mp F
 have S':sm k.caps.length (cp k)=sm k.needs.length (nd k):=by
  rw [uQ,uQ] at S
  exact S
 have hv:=zSg hc ht F' L
 have hn:=zVd hc ht S' L
 have key:∀y,feasible (taken k c t y)=true↔Fe k.needs.length k.caps.length (upd (nd k) c (nd k c-y)) (zYL (rt k) c t) (upd (cp k) t (cp k t-y)):=fun y=>by
  rw [xS (zQr w hc),zVH hc,zQl ht,zQv w hc ht,zW2,zWI]
 generalize hx:min (rt k c t) (cp k t-v)=x
 have ok:feasible (taken k c t x)=true:=(key x).mpr (z3N hc ht F' S' L hx.symm)
 refine ⟨?_,hv,ok,?_⟩
 ·unfold mostAt
  have e:((List.range (min (min (k.needs.getD c 0) ((k.rates.getD c []).getD t 0)) (k.caps.getD t 0)+1)).reverse.find? fun (x:Nat)=>feasible (taken k c t x))=some x:=by
   refine zUu ok _ ?_ fun y h1 h2=>?_
   ·show x≤min (min (nd k c) (rt k c t)) (cp k t)
    lia
   ·have h2':y≤min (min (nd k c) (rt k c t)) (cp k t):=h2
    cases q:feasible (taken k c t y) with
    | false=>rfl
    | true=>exact absurd ((key y).mp q) (z3d hc ht L (by lia) (by lia))
  rw [e]
  rfl
 ·rw [uQ,uQ]
  show sm (taken k c t x).caps.length (cp (taken k c t x))=sm (taken k c t x).needs.length (nd (taken k c t x))
  rw [zQl ht,zVH hc,zW2,zWI]
  have h1:=qR (f:=cp k) ht
  have h2:=qR (f:=nd k) hc
  have h3:=qR (f:=upd (cp k) t (cp k t-x)) ht
  have h4:=qR (f:=upd (nd k) c (nd k c-x)) hc
  rw [uT,qT] at h3 h4
  lia
structure PInv (k0 k:Task) (c t:Nat):Prop where
 wf:WF k
 n:k.needs.length=k0.needs.length
 m:k.caps.length=k0.caps.length
 fe:feasible k=true
 sum:sumOf k.caps=sumOf k.needs
 nd0:∀i,i < c→nd k i=0
 rt0:∀i,i < c→∀u,rt k i u=0
 rtb:∀u,u < t→rt k c u=0
 rtc:∀u,t≤u→rt k c u=rt k0 c u
 ndn:∀i,c < i→nd k i=nd k0 i
 rtn:∀i,c < i→∀u,rt k i u=rt k0 i u
def j4 (k0:Task) (c:Nat) (left:List Nat):Task:=⟨k0.needs.drop (c+1),k0.rates.drop (c+1),left⟩
theorem z0x {k0:Task}{c:Nat}{left:List Nat} (w:WF k0) (h:left.length=k0.caps.length):WF (j4 k0 c left):=⟨by
 show (k0.rates.drop _).length=(k0.needs.drop _).length
 rw [List.length_drop,List.length_drop,w.len],fun r hr=>by
 show r.length=left.length
 rw [h]
 exact w.row r (List.mem_of_mem_drop hr)⟩
theorem PInv.isL {k0 k:Task}{c t:Nat} (w0:WF k0) (I:PInv k0 k c t) (hc:c < k0.needs.length):
  IsL k.needs.length k.caps.length (upd (nd k) c 0) (zZm (rt k) c) (cp k) t (leastAt (j4 k0 c k.caps) t):=by
 have hb:=zYi (z0x (c:=c) w0 I.m) t
 have en:(j4 k0 c k.caps).needs.length=k.needs.length-(c+1):=by
  show (k0.needs.drop (c+1)).length=_
  rw [List.length_drop,I.n]
 rw [en] at hb
 refine z0y (j:=c+1) (by rw [I.n];lia) (fun i hi=>?_) (fun i hi u=>?_) (z0B (fun i _=>?_) (fun i _ u=>?_) hb)
 ·by_cases q:i=c
  ·rw [q,qT]
  ·rw [zXS q]
   exact I.nd0 i (by lia)
 ·by_cases q:i=c
  ·rw [zZm,if_pos q]
  ·rw [zZm,if_neg q]
   exact I.rt0 i (by lia) u
 ·rw [zXS (by lia),I.ndn (c+1+i) (by lia)]
  exact zS5
 ·rw [zZm,if_neg (by lia),I.rtn (c+1+i) (by lia)]
  show ((k0.rates.drop (c+1)).getD i []).getD u 0=_
  rw [zS5]
  rfl
theorem PInv.step {k0 k:Task}{c t:Nat} (w0:WF k0) (I:PInv k0 k c t) (hc:c < k0.needs.length) (ht:t < k0.caps.length):
  mostAt k c t=min (rt k0 c t) (cp k t-leastAt (j4 k0 c k.caps) t)∧leastAt (j4 k0 c k.caps) t≤cp k t∧PInv k0 (taken k c t (mostAt k c t)) c (t+1):=by
 have hc':c < k.needs.length:=by rw [I.n];exact hc
 have ht':t < k.caps.length:=by rw [I.m];exact ht
 obtain ⟨h1,h2,h3,h4⟩:=z00 I.wf hc' ht' I.fe I.sum (I.isL w0 hc)
 refine ⟨by rw [h1,I.rtc t (Nat.le_refl _)],h2,?_⟩
 rw [←h1] at h3 h4
 generalize hx:mostAt k c t=x
 rw [hx] at h3 h4
 have er:=zQv (x:=x) I.wf hc' ht'
 have en:=zVH (t:=t) (x:=x) hc'
 refine ⟨zQr I.wf hc',zW2.trans I.n,zWI.trans I.m,h3,h4,fun i hi=>?_,fun i hi u=>?_,fun u hu=>?_,fun u hu=>?_,fun i hi=>?_,fun i hi u=>?_⟩
 ·rw [en,zXS (by lia)]
  exact I.nd0 i hi
 ·rw [er,zYL,if_neg (fun e=>by lia)]
  exact I.rt0 i hi u
 ·rw [er,zYL]
  by_cases q:u=t
  ·rw [if_pos ⟨rfl,q⟩]
  ·rw [if_neg (fun e=>q e.2)]
   exact I.rtb u (by lia)
 ·rw [er,zYL,if_neg (fun e=>by lia)]
  exact I.rtc u (by lia)
 ·rw [en,zXS (by lia)]
  exact I.ndn i hi
 ·rw [er,zYL,if_neg (fun e=>by lia)]
  exact I.rtn i hi u
theorem PInv.next {k0 k:Task}{c:Nat} (I:PInv k0 k c k0.caps.length):PInv k0 k (c+1) 0:=by
 have hz:∀u,rt k c u=0:=fun u=>by
  by_cases q:u < k0.caps.length
  ·exact I.rtb u q
  ·by_cases hc:c < k.rates.length
   ·show (k.rates.getD c []).getD u 0=0
    refine v3 ?_
    rw [vX hc,I.wf.row _ (List.getElem_mem hc),I.m]
    lia
   ·show (k.rates.getD c []).getD u 0=0
    rw [v3 (by lia:k.rates.length≤c)]
    rfl
 have hn:nd k c=0:=by
  by_cases hc:c < k.needs.length
  ·have h:=(xS I.wf).mp I.fe (2 ^ c)
   rw [zWH hc] at h
   have e1:W k.needs.length (upd (nd k) c 0) (2 ^ c)=0:=zYw fun i _=>by
    show (if (2 ^ c).testBit i=true then upd (nd k) c 0 i else 0)=0
    rw [Nat.testBit_two_pow]
    by_cases q:c=i
    ·subst q
     simp [qT]
    ·simp [q]
   have e2:Rm k.needs.length k.caps.length (rt k) (cp k) (2 ^ c)=0:=zYw fun u _=>by
    show min (cp k u) (W k.needs.length (fun i=>rt k i u) (2 ^ c))=0
    have e3:W k.needs.length (fun i=>rt k i u) (2 ^ c)=0:=zYw fun i _=>by
     show (if (2 ^ c).testBit i=true then rt k i u else 0)=0
     rw [Nat.testBit_two_pow]
     by_cases q:c=i
     ·subst q
      simp [hz u]
     ·simp [q]
    rw [e3,Nat.min_zero]
   have e4:(2 ^ c).testBit c=true:=by
    rw [Nat.testBit_two_pow]
    simp
   rw [e1,e2,if_pos e4] at h
   lia
  ·exact v3 (by lia)
 refine ⟨I.wf,I.n,I.m,I.fe,I.sum,fun i hi=>?_,fun i hi u=>?_,fun u hu=>by lia,fun u _=>I.rtn (c+1) (by lia) u,fun i hi=>I.ndn i (by lia),fun i hi u=>I.rtn i (by lia) u⟩
 ·by_cases q:i=c
  ·rw [q]
   exact hn
  ·exact I.nd0 i (by lia)
 ·by_cases q:i=c
  ·rw [q]
   exact hz u
  ·exact I.rt0 i (by lia) u
theorem PInv.start {k0:Task} (w:WF k0) (F:feasible k0=true) (S:sumOf k0.caps=sumOf k0.needs):PInv k0 k0 0 0:=
 ⟨w,rfl,rfl,F,S,fun i hi=>by lia,fun i hi=>by lia,fun u hu=>by lia,fun _ _=>rfl,fun _ _=>rfl,fun _ _ _=>rfl⟩
open GarText GarPlug
def isNum (b:Bytes):Bool:=(numberIn b).isSome
def numW (lo hi:Nat) (b:Bytes):Bool:=isNum b && (decide (lo≤valueOf b) && decide (valueOf b≤hi))
theorem zXN (b:Bytes):numberIn b=if isNum b=true then some (valueOf b) else none:=by
 unfold isNum numberIn
 split
 ·simp
 ·simp
theorem zVM (lo hi:Nat) (b:Bytes):numIn lo hi b=if numW lo hi b=true then some (valueOf b) else none:=by
 unfold numIn
 rw [zXN]
 unfold numW within
 cases isNum b<;>simp
theorem zQi (lo hi:Nat):∀r:List Bytes,r.mapM (numIn lo hi)=if r.all (numW lo hi)=true then some (r.map valueOf) else none
 | []=>by simp
 | b::r=>by
  rw [List.mapM_cons,zQi lo hi r,zVM]
  by_cases h1:numW lo hi b=true
  ·by_cases h2:r.all (numW lo hi)=true
   ·simp [h1,h2]
   ·simp [h1,h2]
  ·simp [h1]
def w1 (ws:List Bytes) (i:Nat):Bytes:=ws.getD i []
def zYO (ws:List Bytes):Nat:=if ws.length≠3∨w1 ws 0≠ascii "day" ∨ isName (w1 ws 1)=false then 1 else if numW 1 SLOTS (w1 ws 2)=false then 1 else 0
def fRow (w:String) (hi n:Nat) (ws:List Bytes):Nat:=if w1 ws 0≠ascii w then 1 else if (ws.drop 1).all (numW 0 hi)=false then 1 else if ws.length-1≠n then 2 else 0
def stays (a b n:Nat):Bool:=decide (a < b) && decide (b≤n)
def fits (n r:Nat):Bool:=decide (n≤NEED) && (decide (1≤r) && decide (r≤RATE))
def zZZ (ws:List Bytes):Bool:=(ws.length == 6 && (w1 ws 0 == ascii "car" && isName (w1 ws 1))) && ((ws.drop 2).all isNum && fits (valueOf (w1 ws 4)) (valueOf (w1 ws 5)))
def fCar (ws:List Bytes) (names:List Bytes) (n:Nat):Nat:=if zZZ ws=false then 1 else if stays (valueOf (w1 ws 2)) (valueOf (w1 ws 3)) n=false then 3 else if w1 ws 1∈names then 4 else if CARS≤names.length then 5 else 0
def zWG (ws:List Bytes) (i:Nat):Nat:=if i < 3∨ws≠[[]] then 1 else 0
def slotsOf (L:List (List Bytes)):Nat:=valueOf (w1 (L.getD 0 []) 2)
def namesOf (L:List (List Bytes)):List Bytes:=L.map fun ws=>w1 ws 1
def kindAt (L:List (List Bytes)) (i:Nat):Nat:=
 if i=L.length-1 then zWG (L.getD i []) i else if i=0 then zYO (L.getD i []) else if i=1 then fRow "supply" SUPPLY (slotsOf L) (L.getD i []) else if i=2 then fRow "price" PRICE (slotsOf L) (L.getD i [])
 else fCar (L.getD i []) (namesOf ((L.take i).drop 3)) (slotsOf L)
def uY (ws:List Bytes):Car:=⟨w1 ws 1,valueOf (w1 ws 2),valueOf (w1 ws 3),valueOf (w1 ws 4),valueOf (w1 ws 5)⟩
def nums (ws:List Bytes):List Nat:=(ws.drop 1).map valueOf
def zVC (L:List (List Bytes)):Day:=⟨w1 (L.getD 0 []) 1,nums (L.getD 1 []),nums (L.getD 2 []),(L.dropLast.drop 3).map uY⟩
def lns (t:Bytes):List (List Bytes):=(parted LF t).map words
theorem z3L (b:Bytes):headIn b=if zYO (words b)=0 then some (w1 (words b) 1,valueOf (w1 (words b) 2)) else none:=by
 unfold headIn zYO
 generalize words b=ws
 match ws with
 | []=>simp [w1]
 | [_]=>simp [w1]
 | [_,_]=>simp [w1]
 | [k,n,m]=>
  simp only [w1,List.getD_cons_zero,List.getD_cons_succ,zlc,List.length_nil]
  rw [zVM]
  by_cases h1:k=ascii "day"
  ·by_cases h2:isName n=true
   ·by_cases h3:numW 1 SLOTS m=true
    ·simp [h1,h2,h3]
    ·simp [h1,h2,h3]
   ·simp [h1,h2]
  ·simp [h1]
 | _::_::_::_::_=>simp [w1]
theorem zQ1 {ws:List Bytes} (h:zYO ws≠0):zYO ws=1:=by
 unfold zYO at h ⊢
 split
 ·rfl
 ·rename_i q
  rw [if_neg q] at h
  split
  ·rfl
  ·rename_i q2
   rw [if_neg q2] at h
   exact absurd rfl h
theorem zV8 (c:UInt8):∀b:Bytes,parted c b≠[]
 | []=>by unfold parted;simp
 | x::r=>by
  unfold parted
  split
  ·simp
  ·split<;>simp
theorem z2I (b:Bytes):words b≠[]:=zV8 _ b
theorem z1K (w:String) (hi:Nat) (b:Bytes):numRow w hi b=if w1 (words b) 0=ascii w∧((words b).drop 1).all (numW 0 hi)=true then some (nums (words b)) else none:=by
 unfold numRow
 cases e:words b with
 | nil=>exact absurd e (z2I b)
 | cons k q=>
  simp only [w1,nums,List.getD_cons_zero,List.drop_succ_cons,List.drop_zero]
  rw [zQi]
  by_cases h1:k=ascii w
  ·simp [h1]
  ·simp [h1]
theorem z25 (w:String) (hi n i:Nat) (b:Bytes) (r:List Bytes):
  rowAt w hi n i (b::r)=if fRow w hi n (words b)=0 then .ok (nums (words b),r) else .error (fRow w hi n (words b),i):=by
 unfold rowAt
 dsimp only
 rw [z1K]
 unfold fRow
 have hl:(nums (words b)).length=(words b).length-1:=by
  unfold nums
  rw [zlm,List.length_drop]
 by_cases h1:w1 (words b) 0=ascii w
 ·by_cases h2:((words b).drop 1).all (numW 0 hi)=true
  ·simp only [h1,h2,and_self,if_true]
   rw [hl]
   by_cases h3:(words b).length-1=n
   ·simp [h3]
   ·simp [h3]
  ·have h2':((words b).drop 1).all (numW 0 hi)=false:=by simpa using h2
   simp only [h1,h2',true_and]
   simp
 ·simp [h1]
theorem z5e (b:Bytes):carIn b=if zZZ (words b)=true then some (uY (words b)) else none:=by
 unfold carIn zZZ
 generalize words b=ws
 match ws with
 | []=>simp
 | [_]=>simp
 | [_,_]=>simp
 | [_,_,_]=>simp
 | [_,_,_,_]=>simp
 | [_,_,_,_,_]=>simp
 | [k,n,a,e,m,r]=>
  simp only [uY,w1,List.getD_cons_zero,List.getD_cons_succ,zlc,List.length_nil,List.drop_succ_cons,List.drop_zero,List.all_cons,List.all_nil]
  rw [zXN,zXN,zVM,zVM]
  unfold numW fits
  cases h1:isNum a<;>cases h2:isNum e<;>cases h3:isNum m<;>cases h4:isNum r<;>simp
  by_cases h5:valueOf m≤NEED
  ·by_cases h6:1≤valueOf r∧valueOf r≤RATE
   ·by_cases h7:k=ascii "car" ∧ isName n=true
    ·simp [h5,h6.1,h6.2,h7.1,h7.2]
    ·simp only [h5,h6.1,h6.2]
     by_cases h8:k=ascii "car"
     ·have h9:isName n=false:=by
       cases q:isName n with
       | false=>rfl
       | true=>exact absurd ⟨h8,q⟩ h7
      simp [h8,h9]
     ·simp [h8]
   ·by_cases h8:1≤valueOf r
    ·have h9:¬valueOf r≤RATE:=fun q=>h6 ⟨h8,q⟩
     simp [h5,h8,h9]
    ·simp [h5,h8]
  ·simp [h5]
 | _::_::_::_::_::_::_::_=>simp
theorem zSG (t:Bytes):parted LF t=lines t++[behind t]:=by
 unfold lines behind
 have h:=zV8 LF t
 rw [List.getLast?_eq_some_getLast h]
 exact (List.dropLast_concat_getLast h).symm
theorem zSp {b:Bytes}:words b=[[]]↔b=[]:=by
 unfold words
 constructor
 ·intro h
  match b with
  | []=>rfl
  | x::r=>
   unfold parted at h
   have hne:=zV8 BLANK r
   match q:parted BLANK r,hne with
   | y::ys,_=>
    rw [q] at h
    by_cases e:x=BLANK
    ·simp [e] at h
    ·simp [e] at h
 ·rintro rfl
  rfl
theorem z38 (t:Bytes):lns t=(lines t).map words++[words (behind t)]:=by
 unfold lns
 rw [zSG,List.map_append]
 rfl
structure FF (L:List (List Bytes)) (i q:Nat):Prop where
 lt:i < L.length
 clean:∀j,j < i→kindAt L j=0
 is:kindAt L i=q
 ne:q≠0
def NF (L:List (List Bytes)):Prop:=∀j,j < L.length→kindAt L j=0
section
variable {A:List Bytes}{z:Bytes}
theorem zRL:(A.map words++[words z]).length=A.length+1:=by simp
theorem L_at {i:Nat} (h:i < A.length):(A.map words++[words z]).getD i []=words A[i]:=by
 rw [List.getD_eq_getElem?_getD,List.getElem?_append_left (by simpa using h),zgm,zge h]
 rfl
theorem z4r:(A.map words++[words z]).getD A.length []=words z:=by
 rw [List.getD_eq_getElem?_getD,List.getElem?_append_right (by simp)]
 simp
theorem zX6:kindAt (A.map words++[words z]) A.length=zWG (words z) A.length:=by
 unfold kindAt
 rw [zRL,if_pos (by lia),z4r]
end
theorem z1O (n:Nat) (h0:List Bytes) (z:Bytes) (hh:3≤h0.length):∀(rest pre:List Bytes),(∀j,j < h0.length+pre.length→kindAt ((h0++pre++rest).map words++[words z]) j=0)→h0.length=3→slotsOf ((h0++pre++rest).map words++[words z])=n→
  (∃i q,carsOn n (3+pre.length) (pre.map fun b=>uY (words b)) rest=.error (q,i)∧FF ((h0++pre++rest).map words++[words z]) i q)∨
  (carsOn n (3+pre.length) (pre.map fun b=>uY (words b)) rest=.ok ((pre++rest).map fun b=>uY (words b))∧∀j,j < (h0++pre++rest).length→kindAt ((h0++pre++rest).map words++[words z]) j=0)
 | [],pre,hc,h3,hs=>by
  right
  refine ⟨?_,fun j hj=>hc j (by simpa using hj)⟩
  rw [List.append_nil]
  rfl
 | b::rest,pre,hc,h3,hs=>by
  have hi:h0.length+pre.length < (h0++pre++b::rest).length:=by simp
  have hat:(h0++pre++b::rest)[h0.length+pre.length]=b:=by
   rw [List.getElem_append_right (by simp)]
   simp
  have hk:kindAt ((h0++pre++b::rest).map words++[words z]) (3+pre.length)=fCar (words b) (pre.map fun b=>w1 (words b) 1) n:=by
   unfold kindAt
   rw [zRL,if_neg (by simp;lia),if_neg (by lia),if_neg (by lia),if_neg (by lia),hs]
   have e1:((h0++pre++b::rest).map words++[words z]).getD (3+pre.length) []=words b:=by
    have:=L_at (z:=z) hi
    rw [hat,h3] at this
    exact this
   have e2:(((h0++pre++b::rest).map words++[words z]).take (3+pre.length)).drop 3=pre.map words:=by
    rw [List.take_append_of_le_length (by simp;lia),←List.map_take,←List.map_drop]
    congr 1
    rw [zaa,List.take_append,h3]
    rw [List.drop_append]
    simp [h3]
   rw [e1,e2]
   unfold namesOf
   rw [List.map_map]
   rfl
  have hcar:=z5e b
  have hcarsOn:carsOn n (3+pre.length) (pre.map fun b=>uY (words b)) (b::rest)=if fCar (words b) (pre.map fun b=>w1 (words b) 1) n=0 then carsOn n (3+pre.length+1) ((pre.map fun b=>uY (words b))++[uY (words b)]) rest else .error (fCar (words b) (pre.map fun b=>w1 (words b) 1) n,3+pre.length):=by
   rw [carsOn,hcar]
   unfold fCar
   by_cases q1:zZZ (words b)=true
   ·simp only [q1,if_true]
    by_cases q2:stays (valueOf (w1 (words b) 2)) (valueOf (w1 (words b) 3)) n=true
    ·have q2':¬((uY (words b)).to_≤(uY (words b)).from_∨n < (uY (words b)).to_):=by
      unfold stays at q2
      simp only [zbt,decide_eq_true_eq] at q2
      show ¬(valueOf (w1 (words b) 3)≤valueOf (w1 (words b) 2)∨n < valueOf (w1 (words b) 3))
      lia
     rw [if_neg q2',q2]
     simp only [Bool.true_eq_false,if_false]
     have q3':((pre.map fun b=>uY (words b)).any fun (x:Car)=>x.name == (uY (words b)).name)=true↔w1 (words b) 1∈pre.map fun b=>w1 (words b) 1:=by
      rw [List.any_eq_true]
      constructor
      ·rintro ⟨x,hx,e⟩
       obtain ⟨y,hy,rfl⟩:=List.mem_map.mp hx
       exact List.mem_map.mpr ⟨y,hy,eq_of_beq e⟩
      ·intro hx
       obtain ⟨y,hy,e⟩:=List.mem_map.mp hx
       exact ⟨uY (words y),List.mem_map.mpr ⟨y,hy,rfl⟩,beq_iff_eq.mpr e⟩
     by_cases q3:w1 (words b) 1∈pre.map fun b=>w1 (words b) 1
     ·rw [if_pos (q3'.mpr q3),if_pos q3]
      simp
     ·rw [if_neg (fun e=>q3 (q3'.mp e)),if_neg q3,zlm,zlm]
      by_cases q4:CARS≤pre.length
      ·rw [if_pos q4,if_pos q4]
       simp
      ·rw [if_neg q4,if_neg q4]
       simp
    ·have q2f:stays (valueOf (w1 (words b) 2)) (valueOf (w1 (words b) 3)) n=false:=by simpa using q2
     have q2':(uY (words b)).to_≤(uY (words b)).from_∨n < (uY (words b)).to_:=by
      unfold stays at q2
      simp only [zbt,decide_eq_true_eq] at q2
      show valueOf (w1 (words b) 3)≤valueOf (w1 (words b) 2)∨n < valueOf (w1 (words b) 3)
      lia
     rw [if_pos q2',q2f]
     simp
   ·have q1f:zZZ (words b)=false:=by simpa using q1
    rw [q1f]
    simp
  by_cases hq:fCar (words b) (pre.map fun b=>w1 (words b) 1) n=0
  ·rw [hcarsOn,if_pos hq]
   have e0:h0++pre++b::rest=h0++(pre++[b])++rest:=by simp
   have hl:(pre++[b]).length=pre.length+1:=by simp
   have hm:(pre++[b]).map (fun b=>uY (words b))=(pre.map fun b=>uY (words b))++[uY (words b)]:=by simp
   have ih:=z1O n h0 z hh rest (pre++[b]) (fun j hj=>by
    rw [hl] at hj
    rw [←e0]
    by_cases e:j=3+pre.length
    ·rw [e,hk,hq]
    ·exact hc j (by lia)) h3 (by rw [←e0];exact hs)
   rw [hl,hm,←e0,←Nat.add_assoc] at ih
   have e5:pre++[b]++rest=pre++b::rest:=by simp
   rw [e5] at ih
   exact ih
  ·left
   refine ⟨3+pre.length,_,by rw [hcarsOn,if_neg hq],⟨by rw [zRL];lia,fun j hj=>hc j (by lia),hk,hq⟩⟩
theorem z5H {A:List Bytes}{z:Bytes} (i:Nat) (h:i < A.length) (hi:i=0):kindAt (A.map words++[words z]) i=zYO (words A[i]):=by
 unfold kindAt
 rw [zRL,if_neg (by lia),if_pos hi,L_at h]
theorem z35 (t:Bytes):(∃i q,readDay t=.error (q,i)∧FF (lns t) i q)∨(readDay t=.ok (zVC (lns t))∧NF (lns t)):=by
 rw [z38]
 unfold readDay
 generalize lines t=A
 generalize hz:behind t=z
 match A with
 | []=>
  left
  exact ⟨0,1,rfl,⟨by simp,fun j hj=>by lia,by
   show kindAt ([].map words++[words z]) 0=1
   have:=zX6 (A:=[]) (z:=z)
   simp only [List.length_nil] at this
   rw [this]
   simp [zWG],by decide⟩⟩
 | h::r=>
  have k0:kindAt ((h::r).map words++[words z]) 0=zYO (words h):=z5H 0 (by simp) rfl
  simp only
  rw [z3L]
  by_cases q0:zYO (words h)=0
  ·rw [if_pos q0]
   simp only
   have hsl:slotsOf ((h::r).map words++[words z])=valueOf (w1 (words h) 2):=rfl
   match r with
   | []=>
    left
    refine ⟨1,1,rfl,⟨by simp,fun j hj=>?_,?_,by decide⟩⟩
    ·have:j=0:=by lia
     rw [this,k0,q0]
    ·have:=zX6 (A:=[h]) (z:=z)
     simp only [zlc,List.length_nil] at this
     rw [this]
     simp [zWG]
   | b1::r1=>
    have k1:kindAt ((h::b1::r1).map words++[words z]) 1=fRow "supply" SUPPLY (valueOf (w1 (words h) 2)) (words b1):=by
     unfold kindAt
     rw [zRL,if_neg (by simp),if_neg (by lia),if_pos rfl,hsl]
     rfl
    rw [z25]
    by_cases q1:fRow "supply" SUPPLY (valueOf (w1 (words h) 2)) (words b1)=0
    ·rw [if_pos q1]
     simp only
     match r1 with
     | []=>
      left
      refine ⟨2,1,rfl,⟨by simp,fun j hj=>?_,?_,by decide⟩⟩
      ·rcases (by lia:j=0∨j=1) with e|e
       ·rw [e,k0,q0]
       ·rw [e,k1,q1]
      ·have:=zX6 (A:=[h,b1]) (z:=z)
       simp only [zlc,List.length_nil] at this
       rw [this]
       simp [zWG]
     | b2::r2=>
      have k2:kindAt ((h::b1::b2::r2).map words++[words z]) 2=fRow "price" PRICE (valueOf (w1 (words h) 2)) (words b2):=by
       unfold kindAt
       rw [zRL,if_neg (by simp),if_neg (by lia),if_neg (by lia),if_pos rfl,hsl]
       rfl
      rw [z25]
      by_cases q2:fRow "price" PRICE (valueOf (w1 (words h) 2)) (words b2)=0
      ·rw [if_pos q2]
       simp only
       have clean3:∀j,j < 3→kindAt ((h::b1::b2::r2).map words++[words z]) j=0:=fun j hj=>by
        rcases (by lia:j=0∨j=1∨j=2) with e|e|e
        ·rw [e,k0,q0]
        ·rw [e,k1,q1]
        ·rw [e,k2,q2]
       have go:=z1O (valueOf (w1 (words h) 2)) [h,b1,b2] z (by simp) r2 [] (fun j hj=>clean3 j (by simpa using hj)) rfl hsl
       rcases go with ⟨i,q,e,f⟩|⟨e,c⟩
       ·left
        have e':carsOn (valueOf (w1 (words h) 2)) 3 [] r2=.error (q,i):=e
        rw [e']
        exact ⟨i,q,rfl,f⟩
       ·have e':carsOn (valueOf (w1 (words h) 2)) 3 [] r2=.ok (r2.map fun b=>uY (words b)):=e
        rw [e']
        simp only
        have hlast:=zX6 (A:=h::b1::b2::r2) (z:=z)
        by_cases qz:z=[]
        ·right
         rw [if_neg (by rw [qz];exact fun h=>h rfl)]
         refine ⟨?_,fun j hj=>?_⟩
         ·unfold zVC
          rw [List.dropLast_concat]
          simp [Function.comp_def]
         ·rw [zRL] at hj
          by_cases e:j=(h::b1::b2::r2).length
          ·rw [e,hlast]
           unfold zWG
           rw [if_neg]
           intro h
           rcases h with h|h
           ·simp at h
            lia
           ·exact h (zSp.mpr qz)
          ·exact c j (by simp at hj ⊢;simp at e;lia)
        ·left
         rw [if_pos (by exact qz)]
         refine ⟨(b1::b2::r2).length+1,1,rfl,⟨by simp,fun j hj=>c j (by simp at hj ⊢;lia),?_,by decide⟩⟩
         rw [show (b1::b2::r2).length+1=(h::b1::b2::r2).length from rfl,hlast]
         unfold zWG
         rw [if_pos (Or.inr fun e=>qz (zSp.mp e))]
      ·left
       rw [if_neg q2]
       exact ⟨2,_,rfl,⟨by simp,fun j hj=>by
        rcases (by lia:j=0∨j=1) with e|e
        ·rw [e,k0,q0]
        ·rw [e,k1,q1],k2,q2⟩⟩
    ·left
     rw [if_neg q1]
     exact ⟨1,_,rfl,⟨by simp,fun j hj=>by
      have:j=0:=by lia
      rw [this,k0,q0],k1,q1⟩⟩
  ·left
   rw [if_neg q0]
   exact ⟨0,1,rfl,⟨by simp,fun j hj=>by lia,by rw [k0,zQ1 q0],by decide⟩⟩
open GarLoad GarPlug
def canTake (c:Car) (t:Nat):Nat:=if c.from_≤t∧t < c.to_ then c.rate else 0
def tk (cars:List Car) (sup:List Nat):Task:=⟨cars.map fun (c:Car)=>c.need,cars.map (rateAt sup.length),sup⟩
theorem zWh (d:Day):taskOf d=tk d.cars d.supply:=rfl
def car0:Car:=⟨[],0,0,0,0⟩
theorem zQ3 {n:Nat}{c:Car}:(rateAt n c).length=n:=by
 unfold rateAt
 rw [zlm,List.length_range]
theorem zQL {n:Nat}{c:Car}{t:Nat} (h:t < n):(rateAt n c).getD t 0=canTake c t:=by
 unfold rateAt canTake
 refine getD_some ?_
 rw [zgm,List.getElem?_range h]
 rfl
theorem zZ3 (cars:List Car) (sup:List Nat):WF (tk cars sup):=⟨by
 show (cars.map _).length=(cars.map _).length
 rw [zlm,zlm],fun r hr=>by
 obtain ⟨c,_,rfl⟩:=List.mem_map.mp hr
 exact zQ3⟩
theorem tk_n {cars:List Car}{sup:List Nat}:(tk cars sup).needs.length=cars.length:=List.length_map ..
theorem getD_map {α β:Type}{l:List α}{f:α→β}{i:Nat}{d:α}{e:β} (h:f d=e):(l.map f).getD i e=f (l.getD i d):=by
 rw [List.getD_eq_getElem?_getD,List.getD_eq_getElem?_getD,zgm]
 cases l[i]? with
 | none=>exact h.symm
 | some x=>rfl
theorem z3k {cars:List Car}{sup:List Nat} (c:Nat):nd (tk cars sup) c=(cars.getD c car0).need:=getD_map rfl
theorem zU2 {cars:List Car}{sup:List Nat} (c:Nat) {t:Nat} (h:t < sup.length):rt (tk cars sup) c t=canTake (cars.getD c car0) t:=by
 show ((cars.map (rateAt sup.length)).getD c []).getD t 0=_
 by_cases q:c < cars.length
 ·rw [vX (l:=cars.map (rateAt sup.length)) (by rw [zlm];exact q),List.getElem_map,zQL h,vX q]
 ·rw [v3 (l:=cars.map (rateAt sup.length)) (by rw [zlm];lia),v3 (l:=cars) (by lia)]
  unfold canTake car0
  simp
def pick {α:Type} (l:List α) (a:Nat):List α:=(l.zipIdx.filter fun (x:α×Nat)=>a.testBit x.2).map fun (x:α×Nat)=>x.1
def yT {α:Type} (l:List α):List (List α):=l.foldl (fun (z:List (List α)) (c:α)=>z++z.map fun (y:List α)=>y++[c]) [[]]
theorem zSF {α:Type} (l:List α) (c:α):yT (l++[c])=yT l++(yT l).map fun (y:List α)=>y++[c]:=by
 unfold yT
 rw [List.foldl_append]
 rfl
theorem zUP {α:Type} (l:List α) (c:α) (a:Nat):pick (l++[c]) a=pick l a++(if a.testBit l.length=true then [c] else []):=by
 unfold pick
 rw [List.zipIdx_append,List.filter_append,List.map_append]
 congr 1
 show ((List.filter _ [(c,0+l.length)]).map _)=_
 rw [Nat.zero_add,List.filter_cons,List.filter_nil]
 by_cases q:a.testBit l.length=true
 ·rw [if_pos q,if_pos q]
  rfl
 ·rw [if_neg q,if_neg q]
  rfl
theorem zX1 {α:Type}{l:List α}{x:α×Nat} (h:x∈l.zipIdx):x.2 < l.length:=by
 rw [List.mem_zipIdx_iff_getElem?] at h
 exact (List.getElem?_eq_some_iff.mp h).1
theorem z1D {α:Type}{l:List α}{a b:Nat} (h:∀c,c < l.length→a.testBit c=b.testBit c):pick l a=pick l b:=by
 unfold pick
 congr 1
 exact List.filter_congr fun x hx=>h _ (zX1 hx)
theorem zXj {α:Type}:∀l:List α,yT l=(List.range (2 ^ l.length)).map (pick l):=fun l=>by
 rw [←List.reverse_reverse l]
 generalize l.reverse=r
 induction r with
 | nil=>rfl
 | cons c r ih=>
  rw [List.reverse_cons,zSF,ih]
  generalize r.reverse=l
  rw [zla,List.length_singleton,Nat.pow_succ,Nat.mul_two,List.range_add,List.map_append,List.map_map,List.map_map]
  congr 1
  ·refine List.map_congr_left fun a ha=>?_
   rw [zUP,if_neg (by rw [Nat.testBit_lt_two_pow (List.mem_range.mp ha)];decide),List.append_nil]
  ·refine List.map_congr_left fun a ha=>?_
   show pick l a++[c]=pick (l++[c]) (2 ^ l.length+a)
   rw [zUP,if_pos (by rw [Nat.testBit_two_pow_add_eq,Nat.testBit_lt_two_pow (List.mem_range.mp ha)];rfl)]
   congr 1
   exact z1D fun i hi=>(Nat.testBit_two_pow_add_gt hi _).symm
theorem zRD {α:Type} (l:List α):(yT l).length=2 ^ l.length:=by rw [zXj,zlm,List.length_range]
theorem z3A {α:Type}{l:List α}{a:Nat} (h:a < 2 ^ l.length):(yT l)[a]?=some (pick l a):=by
 rw [zXj,zgm,List.getElem?_range h]
 rfl
theorem zZz {α:Type}{l:List α}{S:List α}:S∈yT l↔∃a,a < 2 ^ l.length∧pick l a=S:=by
 rw [zXj,List.mem_map]
 constructor
 ·rintro ⟨a,h,e⟩
  exact ⟨a,List.mem_range.mp h,e⟩
 ·rintro ⟨a,h,e⟩
  exact ⟨a,List.mem_range.mpr h,e⟩
def Sub (cars S:List Car) (a:Nat):Prop:=∀f:Car→Nat,f car0=0→sumOf (S.map f)=W cars.length (fun c=>f (cars.getD c car0)) a
theorem zWo (cars:List Car) (a:Nat):Sub cars (pick cars a) a:=fun f _=>by
 unfold pick
 rw [List.map_map]
 have e:=zYS (fun (x:Car×Nat)=>a.testBit x.2) (fun (x:Car×Nat)=>f x.1) cars.zipIdx
 exact e.trans (zWX cars f car0 a)
def xY (S:List Car):Nat:=sumOf (S.map fun (c:Car)=>c.need)
def zZC (S:List Car) (t:Nat):Nat:=sumOf (S.map fun (c:Car)=>canTake c t)
def qZ (S:List Car) (sup:List Nat) (t:Nat):Nat:=min (sup.getD t 0) (zZC S t)
def uS (S:List Car) (sup:List Nat):Nat:=sumOf ((List.range sup.length).map (qZ S sup))
theorem zRO (n:Nat) (f:Nat→Nat):sumOf ((List.range n).map f)=sm n f:=by
 induction n with
 | zero=>rfl
 | succ n ih=>
  rw [List.range_succ,List.map_append,zYZ,ih]
  rfl
section
variable {cars S:List Car}{sup:List Nat}{a:Nat}
theorem Sub.wants (h:Sub cars S a):xY S=wants (tk cars sup) a:=by
 rw [zZ9,tk_n]
 refine (h _ rfl).trans (zZT fun c _=>?_)
 rw [z3k]
theorem Sub.takes (h:Sub cars S a) {t:Nat} (ht:t < sup.length):zZC S t=W (tk cars sup).needs.length (fun c=>rt (tk cars sup) c t) a:=by
 rw [tk_n]
 refine (h (fun c=>canTake c t) (by unfold canTake car0;simp)).trans (zZT fun c _=>?_)
 rw [zU2 c ht]
theorem Sub.gets (h:Sub cars S a) {t:Nat} (ht:t < sup.length):qZ S sup t=min (cp (tk cars sup) t) (W (tk cars sup).needs.length (fun c=>rt (tk cars sup) c t) a):=by
 unfold qZ
 rw [h.takes ht]
 rfl
theorem Sub.room (h:Sub cars S a):uS S sup=room (tk cars sup) a:=by
 rw [zWQ (zZ3 _ _)]
 unfold uS
 rw [zRO]
 exact yW fun t ht=>h.gets ht
theorem Sub.excess (h:Sub cars S a):xY S-uS S sup=excess (tk cars sup) a:=by
 unfold GarLoad.excess
 rw [h.wants (sup:=sup),h.room]
end
def wantAt (S:List Car) (sup:List Nat) (t:Nat):Int:=(xY S:Int)-(uS S sup:Int)+(qZ S sup t:Int)
theorem Sub.wantAt {cars S:List Car}{sup:List Nat}{a t:Nat} (h:Sub cars S a) (ht:t < sup.length):
  wantAt S sup t=(W (tk cars sup).needs.length (nd (tk cars sup)) a:Int)-(Rx (tk cars sup).needs.length (tk cars sup).caps.length (rt (tk cars sup)) (cp (tk cars sup)) t a:Int):=by
 unfold Chg.wantAt
 have e1:=h.wants (sup:=sup)
 have e2:=h.room (sup:=sup)
 rw [zZ9] at e1
 rw [zWQ (zZ3 _ _),x8 (m:=(tk cars sup).caps.length) ht] at e2
 have e3:=h.gets ht
 lia
theorem z01 {α:Type} (l:List α):pick l 0=[]:=by
 unfold pick
 rw [List.filter_eq_nil_iff.mpr (fun x _=>by simp)]
 rfl
theorem z2Z {cars:List Car}{sup:List Nat}{t:Nat}{m:Int} (ht:t < sup.length) (hm:∃S∈yT cars,wantAt S sup t=m) (hle:∀S∈yT cars,wantAt S sup t≤m):
  m=(leastAt (tk cars sup) t:Int):=by
 have h0:0≤m:=by
  have:=hle (pick cars 0) (zZz.mpr ⟨0,Nat.two_pow_pos _,rfl⟩)
  rw [(zWo cars 0).wantAt ht,zUg,z1x] at this
  exact this
 obtain ⟨v,rfl⟩:=Int.eq_ofNat_of_zero_le h0
 refine congrArg Int.ofNat (IsL.uniq ⟨fun a=>?_,?_⟩ (zYi (zZ3 cars sup) t))
 ·have h:=hle (pick cars (a % 2 ^ cars.length)) (zZz.mpr ⟨_,Nat.mod_lt _ (Nat.two_pow_pos _),rfl⟩)
  rw [(zWo cars _).wantAt ht] at h
  have e1:=z1o (n:=(tk cars sup).needs.length) (f:=nd (tk cars sup)) (a:=a)
  have e2:=z3a (n:=(tk cars sup).needs.length) (m:=(tk cars sup).caps.length) (rate:=rt (tk cars sup)) (cap:=cp (tk cars sup)) (a:=a) (t:=t)
  rw [tk_n] at e1 e2 h ⊢
  rw [e1,e2] at h
  lia
 ·obtain ⟨S,hS,e⟩:=hm
  obtain ⟨a,_,rfl⟩:=zZz.mp hS
  rw [(zWo cars _).wantAt ht] at e
  exact ⟨a,by lia⟩
theorem least_le {cars:List Car}{sup:List Nat}{t:Nat} (ht:t < sup.length) (F:feasible (tk cars sup)=true):leastAt (tk cars sup) t≤sup.getD t 0:=
 IsL.le_cap (cap:=cp (tk cars sup)) (m:=(tk cars sup).caps.length) ht ((xS (zZ3 cars sup)).mp F) (zYi (zZ3 cars sup) t)
def excL (cars:List Car) (sup:List Nat):List Nat:=(yT cars).map fun (S:List Car)=>xY S-uS S sup
theorem z3c (cars:List Car) (sup:List Nat):excL cars sup=(sets (tk cars sup)).map (excess (tk cars sup)):=by
 unfold excL sets
 rw [zXj,List.map_map,tk_n]
 exact List.map_congr_left fun a _=>(zWo cars a).excess
theorem zXt (f:Nat→Nat):∀(n lo:Nat),0 < n→∃b,greatestBy f (List.range' lo n)=some b∧(lo≤b∧b < lo+n)∧(∀a,lo≤a→a < lo+n→f a≤f b)∧∀a,lo≤a→a < b→f a < f b
 | 0,lo,h=>by lia
 | n+1,lo,_=>by
  rw [List.range'_succ]
  unfold greatestBy
  by_cases hr:n=0
  ·subst hr
   exact ⟨lo,rfl,by lia,fun a h1 h2=>by rw [show a=lo by lia];exact Nat.le_refl _,fun a h1 h2=>by lia⟩
  ·obtain ⟨b,e,hb,hm,hf⟩:=zXt f n (lo+1) (by lia)
   rw [e]
   by_cases q:f lo < f b
   ·refine ⟨b,by simp only [q,if_true],by lia,fun x h1 h2=>?_,fun x h1 h2=>?_⟩
    ·by_cases z:x=lo
     ·subst z
      lia
     ·exact hm x (by lia) (by lia)
    ·by_cases z:x=lo
     ·subst z
      exact q
     ·exact hf x (by lia) (by lia)
   ·refine ⟨lo,by simp only [q,if_false],by lia,fun x h1 h2=>?_,fun x h1 h2=>by lia⟩
    by_cases z:x=lo
    ·subst z
     exact Nat.le_refl _
    ·have:=hm x (by lia) (by lia)
     lia
theorem zV4 (k:Task):worst k < 2 ^ k.needs.length∧(∀a,a < 2 ^ k.needs.length→excess k a≤excess k (worst k))∧∀a,a < worst k→excess k a < excess k (worst k):=by
 obtain ⟨b,e,h1,h2,h3⟩:=zXt (excess k) (2 ^ k.needs.length) 0 (Nat.two_pow_pos _)
 have e2:worst k=b:=by
  unfold worst sets
  rw [List.range_eq_range',e]
  rfl
 rw [e2]
 exact ⟨by lia,fun a h=>h2 a (Nat.zero_le _) (by lia),fun a h=>h3 a (Nat.zero_le _) h⟩
theorem z2E {cars:List Car}{sup:List Nat}:(excL cars sup).length=2 ^ cars.length:=by
 unfold excL
 rw [zlm,zRD]
theorem zR1 {cars:List Car}{sup:List Nat}{a:Nat} (h:a < 2 ^ cars.length):(excL cars sup)[a]?=some (excess (tk cars sup) a):=by
 rw [z3c,zgm]
 unfold sets
 rw [List.getElem?_range (by rw [tk_n];exact h)]
 rfl
theorem z5p {cars:List Car}{sup:List Nat}{m:Nat} (hm:m∈excL cars sup) (hle:∀y∈excL cars sup,y≤m):m=excess (tk cars sup) (worst (tk cars sup)):=by
 obtain ⟨h1,h2,_⟩:=zV4 (tk cars sup)
 rw [tk_n] at h1 h2
 obtain ⟨a,ha,e⟩:=List.getElem_of_mem hm
 have ha':a < 2 ^ cars.length:=by rw [z2E] at ha;exact ha
 have e2:=zR1 (sup:=sup) ha'
 rw [zge ha,e] at e2
 have e3:=zsi e2
 have h3:=h2 a ha'
 have h4:=hle _ (List.mem_of_getElem? (zR1 (sup:=sup) h1))
 lia
theorem z23 (k:Task):feasible k=true↔excess k (worst k)=0:=by
 obtain ⟨h1,h2,_⟩:=zV4 k
 unfold feasible sets
 rw [List.all_eq_true]
 constructor
 ·intro h
  have:=h _ (List.mem_range.mpr h1)
  rw [zde] at this
  unfold excess
  lia
 ·intro h a ha
  have:=h2 a (List.mem_range.mp ha)
  rw [h] at this
  rw [zde]
  unfold excess at this
  lia
theorem z24 (k:Task) (a:Nat):excess k a≤sumOf k.needs:=by
 unfold excess
 rw [zZ9,uQ]
 have:W k.needs.length (nd k) a≤sm k.needs.length (nd k):=W_le
 show _≤sm k.needs.length (nd k)
 lia
open GarLoad GarPlug
theorem zXR {α:Type}{R:α→α→Prop} (asym:∀a b,R a b→¬R b a):∀l m:List α,l.Pairwise R→m.Pairwise R→(∀x,x∈l↔x∈m)→l=m
 | [],[],_,_,_=>rfl
 | [],b::m,_,_,h=>absurd ((h b).mpr List.mem_cons_self) (by simp)
 | a::l,[],_,_,h=>absurd ((h a).mp List.mem_cons_self) (by simp)
 | a::l,b::m,hl,hm,h=>by
  obtain ⟨h1,h2⟩:=List.pairwise_cons.mp hl
  obtain ⟨h3,h4⟩:=List.pairwise_cons.mp hm
  have irr:∀a,¬R a a:=fun a h=>asym a a h h
  have e:a=b:=by
   rcases List.mem_cons.mp ((h a).mp List.mem_cons_self) with q|q
   ·exact q
   ·rcases List.mem_cons.mp ((h b).mpr List.mem_cons_self) with z|z
    ·exact z.symm
    ·exact absurd (h1 b z) (asym _ _ (h3 a q))
  subst e
  congr 1
  refine zXR asym l m h2 h4 fun x=>⟨fun hx=>?_,fun hx=>?_⟩
  ·rcases List.mem_cons.mp ((h x).mp (zmc _ hx)) with q|q
   ·subst q
    exact absurd (h1 _ hx) (irr _)
   ·exact q
  ·rcases List.mem_cons.mp ((h x).mpr (zmc _ hx)) with q|q
   ·subst q
    exact absurd (h3 _ hx) (irr _)
   ·exact q
theorem zXg {p:List Nat}{t u:Nat}:dearer p t u=true↔p.getD u 0 < p.getD t 0∨(p.getD u 0=p.getD t 0∧u < t):=by
 unfold dearer
 rw [Bool.or_eq_true,zbt,zde,zde,beq_iff_eq]
theorem zVc {p:List Nat}{t:Nat}:∀{l:List Nat},(∀u∈l,u≠t)→l.Pairwise (fun a b=>dearer p a b=true)→(putBy p t l).Pairwise (fun a b=>dearer p a b=true)
 | [],_,_=>by
  unfold putBy
  exact List.pairwise_singleton _ _
 | u::r,hn,h=>by
  obtain ⟨h1,h2⟩:=List.pairwise_cons.mp h
  unfold putBy
  by_cases q:dearer p t u=true
  ·rw [if_pos q]
   refine List.pairwise_cons.mpr ⟨fun b hb=>?_,h⟩
   rcases List.mem_cons.mp hb with rfl|hb
   ·exact q
   ·have z:=h1 b hb
    rw [zXg] at z q ⊢
    lia
  ·rw [if_neg q]
   refine List.pairwise_cons.mpr ⟨fun b hb=>?_,zVc (fun x hx=>hn x (zmc _ hx)) h2⟩
   rcases (zUO p t r b).mp hb with rfl|hb
   ·have:=hn u List.mem_cons_self
    rw [zXg] at q ⊢
    lia
   ·exact h1 b hb
theorem zVe {p:List Nat}:∀{l:List Nat},l.Nodup→(l.foldr (putBy p) []).Pairwise (fun a b=>dearer p a b=true)
 | [],_=>List.Pairwise.nil
 | x::r,h=>by
  obtain ⟨h1,h2⟩:=List.nodup_cons.mp h
  rw [List.foldr_cons]
  refine zVc (fun u hu e=>?_) (zVe h2)
  rw [zZo] at hu
  subst e
  exact h1 hu
theorem zXz (p:List Nat):(byPrice p).Pairwise (fun a b=>dearer p a b=true):=zVe List.nodup_range
theorem z2X {p l:List Nat} (hm:∀x,x∈l↔x < p.length) (hs:l.Pairwise (fun a b=>dearer p a b=true)):l=byPrice p:=
 zXR (R:=fun a b=>dearer p a b=true) (fun a b h1 h2=>by
  rw [zXg] at h1 h2
  lia) l (byPrice p) hs (zXz p) fun x=>by rw [hm,u7]
def lowL (cars:List Car) (y:List Nat) (t:Nat):List Nat:=y.set t (leastAt (tk cars y) t)
theorem z4F (cars:List Car) (y:List Nat) (t:Nat):low (tk cars y) t=tk cars (lowL cars y t):=by
 unfold low lowL
 show Task.mk _ (cars.map (rateAt y.length)) _=Task.mk _ (cars.map (rateAt (y.set t _).length)) _
 rw [List.length_set]
 rfl
theorem zUm (cars:List Car):∀(l y:List Nat),l.foldl low (tk cars y)=tk cars (l.foldl (lowL cars) y)
 | [],y=>rfl
 | t::l,y=>by rw [List.foldl_cons,List.foldl_cons,z4F,zUm cars l]
theorem zTd (cars:List Car) (sup p:List Nat):loadsOf (tk cars sup) p=(byPrice p).foldl (lowL cars) sup:=by
 rw [zTl,zUm]
 rfl
theorem j9 (cars:List Car):∀(l y:List Nat),(l.foldl (lowL cars) y).length=y.length
 | [],y=>rfl
 | t::l,y=>by
  rw [List.foldl_cons,j9 cars l]
  exact List.length_set
theorem zZU (cars:List Car) {t:Nat}:∀(l y:List Nat),t∉l→(l.foldl (lowL cars) y).getD t 0=y.getD t 0
 | [],y,_=>rfl
 | u::l,y,h=>by
  rw [List.foldl_cons,zZU cars l _ (fun z=>h (zmc _ z))]
  unfold lowL
  rw [List.getD_eq_getElem?_getD,List.getD_eq_getElem?_getD,List.getElem?_set_ne (fun e=>h (by rw [e];exact List.mem_cons_self))]
theorem z1y {n m:Nat}{need:Nat→Nat}{rate:Nat→Nat→Nat}{cap:Nat→Nat} (F:Fe n m need rate cap):∀l:List Nat,(∀t∈l,Ti n m need rate cap t)→∃a,W n need a=Rm n m rate cap a∧∀t∈l,cap t≤W n (fun c=>rate c t) a
 | [],_=>⟨0,by rw [zUg,z1V],fun t ht=>by cases ht⟩
 | j::l,h=>by
  obtain ⟨a,e,hl⟩:=z1y F l fun t ht=>h t (zmc _ ht)
  obtain ⟨b,e2,l2⟩:=h j List.mem_cons_self
  have h1:=F (a ||| b)
  have h2:=F (a &&& b)
  have h3:=zWw (n:=n) (f:=need) (a:=a) (b:=b)
  have h4:=z1g (n:=n) (m:=m) (rate:=rate) (cap:=cap) (a:=a) (b:=b)
  refine ⟨a ||| b,by lia,fun t ht=>?_⟩
  have ma:W n (fun c=>rate c t) a≤W n (fun c=>rate c t) (a ||| b):=zVS fun c _ h=>by rw [Nat.testBit_or,h];rfl
  have mb:W n (fun c=>rate c t) b≤W n (fun c=>rate c t) (a ||| b):=zVS fun c _ h=>by rw [Nat.testBit_or,h,Bool.or_true]
  rcases List.mem_cons.mp ht with rfl|ht
  ·lia
  ·have:=hl t ht
   lia
theorem zVo {α:Type}{R:α→α→Prop}{P:α→Bool} (mono:∀a b,R a b→P b=true→P a=true):∀l:List α,l.Pairwise R→l=l.filter P++l.filter fun x=>!P x
 | [],_=>rfl
 | a::l,h=>by
  obtain ⟨h1,h2⟩:=List.pairwise_cons.mp h
  rw [List.filter_cons,List.filter_cons]
  cases q:P a with
  | true=>
   show a::l=a::(l.filter P)++_
   rw [List.cons_append]
   congr 1
   exact zVo mono l h2
  | false=>
   have z:∀b∈l,P b=false:=fun b hb=>by
    cases e:P b with
    | false=>rfl
    | true=>
     rw [mono a b (h1 b hb) e] at q
     cases q
   rw [List.filter_eq_nil_iff.mpr (fun b hb=>by rw [z b hb];decide),List.filter_eq_self.mpr (fun b hb=>by rw [z b hb];rfl)]
   rfl
def above (p y:List Nat) (q:Nat):Nat:=sm y.length fun t=>if p.getD t 0 < q then 0 else y.getD t 0
theorem zR8 {cars:List Car}{sup p:List Nat} (hp:p.length=sup.length) (F:feasible (tk cars sup)=true) (q:Nat):
  (∀a,W cars.length (nd (tk cars sup)) a≤roomIn (tk cars sup) a (cheaper p q)+above p (loadsOf (tk cars sup) p) q)∧
  ∃a,W cars.length (nd (tk cars sup)) a=roomIn (tk cars sup) a (cheaper p q)+above p (loadsOf (tk cars sup) p) q:=by
 generalize hP:(fun t:Nat=>decide (q≤p.getD t 0))=P
 have hPt:∀t,P t=true↔q≤p.getD t 0:=fun t=>by rw [←hP,zde]
 have hs:=zVo (P:=P) (fun a b h hb=>by
  rw [zXg] at h
  rw [hPt] at hb ⊢
  lia) (byPrice p) (zXz p)
 generalize hpre:(byPrice p).filter P=pre at hs
 generalize hpost:((byPrice p).filter fun x=>!P x)=post at hs
 have mpre:∀t,t∈pre↔t < p.length∧q≤p.getD t 0:=fun t=>by rw [←hpre,List.mem_filter,u7,hPt]
 have mpost:∀t,t∈post↔t < p.length∧p.getD t 0 < q:=fun t=>by
  rw [←hpost,List.mem_filter,u7]
  have:=hPt t
  cases e:P t with
  | true=>
   rw [e] at this
   have:=this.mp rfl
   constructor
   ·rintro ⟨_,h⟩
    cases h
   ·rintro ⟨_,h⟩
    lia
  | false=>
   constructor
   ·rintro ⟨h,_⟩
    refine ⟨h,?_⟩
    rcases Nat.lt_or_ge (p.getD t 0) q with z|z
    ·exact z
    ·rw [this.mpr z] at e
     cases e
   ·rintro ⟨h,_⟩
    exact ⟨h,rfl⟩
 have L:Lowd (tk cars sup) (pre.foldl low (tk cars sup)) (pre.reverse++[]):=Lowd.all pre (done:=[]) ⟨zZ3 _ _,rfl,rfl,rfl,(xS (zZ3 _ _)).mp F,fun t h=>by cases h⟩ fun t h=>by
  show t < sup.length
  have:=(mpre t).mp h
  lia
 rw [zUm] at L
 generalize hy1:pre.foldl (lowL cars) sup=y1 at L
 have hlen1:y1.length=sup.length:=by rw [←hy1,j9]
 have hload:loadsOf (tk cars sup) p=post.foldl (lowL cars) y1:=by rw [zTd,hs,List.foldl_append,hy1]
 have hlenl:(loadsOf (tk cars sup) p).length=sup.length:=by rw [hload,j9,hlen1]
 have y1off:∀t,t∉pre→y1.getD t 0=sup.getD t 0:=fun t h=>by rw [←hy1,zZU cars pre sup h]
 have ldoff:∀t,t∉post→(loadsOf (tk cars sup) p).getD t 0=y1.getD t 0:=fun t h=>by rw [hload,zZU cars post y1 h]
 have hab:above p (loadsOf (tk cars sup) p) q=sm sup.length fun t=>if p.getD t 0 < q then 0 else y1.getD t 0:=by
  unfold above
  rw [hlenl]
  refine yW fun t ht=>?_
  by_cases z:p.getD t 0 < q
  ·rw [if_pos z,if_pos z]
  ·rw [if_neg z,if_neg z]
   exact ldoff t fun h=>z ((mpost t).mp h).2
 have erm:∀a,Rm cars.length sup.length (rt (tk cars sup)) (cp (tk cars y1)) a=roomIn (tk cars sup) a (cheaper p q)+sm sup.length fun t=>if p.getD t 0 < q then 0 else min (y1.getD t 0) (W cars.length (fun c=>rt (tk cars sup) c t) a):=fun a=>by
  rw [zY0 (zZ3 _ _),tk_n]
  show _=sm sup.length _+sm sup.length _
  rw [←zUI]
  refine yW fun t ht=>?_
  show min (y1.getD t 0) _=(if cheaper p q t=true then min (sup.getD t 0) _ else 0)+_
  unfold cheaper
  by_cases z:p.getD t 0 < q
  ·rw [if_pos (by rw [zde];exact z),if_pos z,Nat.add_zero,y1off t fun h=>by have:=((mpre t).mp h).2;lia]
  ·rw [if_neg (by rw [zde];exact z),if_neg z,Nat.zero_add]
 have ert:∀c t,t < sup.length→rt (tk cars y1) c t=rt (tk cars sup) c t:=fun c t ht=>by rw [zU2 c (by rw [hlen1];exact ht),zU2 c ht]
 have erm1:∀a,Rm (tk cars y1).needs.length (tk cars y1).caps.length (rt (tk cars y1)) (cp (tk cars y1)) a=Rm cars.length sup.length (rt (tk cars sup)) (cp (tk cars y1)) a:=fun a=>by
  rw [tk_n]
  show sm y1.length _=sm sup.length _
  rw [hlen1]
  refine yW fun t ht=>?_
  rw [zZT fun c _=>ert c t ht]
 have fe:=L.fe
 rw [hab]
 refine ⟨fun a=>?_,?_⟩
 ·have h:=fe a
  rw [erm1,erm,tk_n] at h
  refine Nat.le_trans h (Nat.add_le_add_left (zWR fun t _=>?_) _)
  by_cases z:p.getD t 0 < q
  ·rw [if_pos z,if_pos z]
   exact Nat.le_refl _
  ·rw [if_neg z,if_neg z]
   exact Nat.min_le_left _ _
 ·obtain ⟨a,e,hl⟩:=z1y fe pre fun t ht=>L.ti t (by rw [List.append_nil,List.mem_reverse];exact ht)
  refine ⟨a,?_⟩
  rw [erm1,erm,tk_n] at e
  refine e.trans ?_
  congr 1
  refine yW fun t ht=>?_
  by_cases z:p.getD t 0 < q
  ·rw [if_pos z,if_pos z]
  ·rw [if_neg z,if_neg z]
   have h:=hl t ((mpre t).mpr ⟨by lia,by lia⟩)
   rw [tk_n,zZT fun c _=>ert c t ht] at h
   exact Nat.min_eq_left h
theorem zTL:∀(Q x y:Nat),x≤Q→(sm Q fun q=>if x < q+1 then 0 else y)=x * y
 | 0,x,y,h=>by
  have:x=0:=by lia
  subst this
  rw [Nat.zero_mul]
  rfl
 | Q+1,x,y,h=>by
  show sm Q _+(if x < Q+1 then 0 else y)=x * y
  by_cases q:x≤Q
  ·rw [zTL Q x y q,if_pos (by lia),Nat.add_zero]
  ·have e:x=Q+1:=by lia
   subst e
   rw [if_neg (by lia)]
   have:(sm Q fun q=>if Q+1 < q+1 then 0 else y)=sm Q fun q=>if Q < q+1 then 0 else y:=yW fun i hi=>by
    rw [if_neg (by lia),if_neg (by lia)]
   rw [this,zTL Q Q y (Nat.le_refl _),Nat.succ_mul]
theorem z0p {f:Nat→Nat→Nat}{n:Nat}:∀{m:Nat},(sm n fun i=>sm m fun j=>f i j)=sm m fun j=>sm n fun i=>f i j
 | 0=>zRJ
 | m+1=>by
  show (sm n fun i=>sm m (fun j=>f i j)+f i m)=sm m (fun j=>sm n fun i=>f i j)+sm n fun i=>f i m
  rw [zUI,z0p]
theorem z1C {p y:List Nat} (h:p.length=y.length):costOf p y=sm y.length fun t=>p.getD t 0 * y.getD t 0:=by
 unfold costOf
 rw [uQ,zlm,List.length_zip,h,Nat.min_self]
 refine yW fun t ht=>?_
 refine getD_some ?_
 have hp:t < p.length:=by lia
 have e:(p.zip y)[t]?=some (p[t],y[t]):=List.getElem?_zip_eq_some.mpr ⟨zge hp,zge ht⟩
 rw [zgm,e,vX hp,vX ht]
 rfl
theorem zU5 {p y:List Nat} (h:p.length=y.length) {Q:Nat} (hQ:∀t,p.getD t 0≤Q):costOf p y=sm Q fun q=>above p y (q+1):=by
 rw [z1C h]
 unfold above
 rw [z0p]
 exact yW fun t _=>(zTL Q _ _ (hQ t)).symm
theorem z4J (p:List Nat):∃Q,∀t,p.getD t 0≤Q:=by
 induction p with
 | nil=>exact ⟨0,fun t=>by simp⟩
 | cons a p ih=>
  obtain ⟨Q,h⟩:=ih
  refine ⟨a+Q,fun t=>?_⟩
  cases t with
  | zero=>show a≤a+Q;lia
  | succ t=>
   have:=h t
   show p.getD t 0≤a+Q
   lia
theorem zWf {cars:List Car}{sup p:List Nat}:(loadsOf (tk cars sup) p).length=sup.length:=by rw [zTd,j9]
theorem z4Y {cars:List Car}{sup sup' p:List Nat} (hp:p.length=sup.length) (hl:sup'.length=sup.length) (hm:∀t,sup.getD t 0≤sup'.getD t 0) (F:feasible (tk cars sup)=true):
  feasible (tk cars sup')=true∧costOf p (loadsOf (tk cars sup') p)≤costOf p (loadsOf (tk cars sup) p):=by
 have ert:∀c t,t < sup.length→rt (tk cars sup') c t=rt (tk cars sup) c t:=fun c t ht=>by rw [zU2 c (by rw [hl];exact ht),zU2 c ht]
 have F':feasible (tk cars sup')=true:=by
  rw [xS (zZ3 _ _)] at F ⊢
  intro a
  have h:=F a
  rw [tk_n] at h ⊢
  refine Nat.le_trans h ?_
  show sm sup.length _≤sm sup'.length _
  rw [hl]
  refine zWR fun t ht=>?_
  rw [zZT fun c _=>ert c t ht]
  have h2:cp (tk cars sup) t≤cp (tk cars sup') t:=hm t
  lia
 refine ⟨F',?_⟩
 obtain ⟨Q,hQ⟩:=z4J p
 rw [zU5 (y:=loadsOf (tk cars sup) p) (by rw [zWf];exact hp) hQ,zU5 (y:=loadsOf (tk cars sup') p) (by rw [zWf,hl];exact hp) hQ]
 refine zWR fun q _=>?_
 obtain ⟨a,e⟩:=(zR8 (p:=p) (by lia) F' (q+1)).2
 have h:=(zR8 (p:=p) hp F (q+1)).1 a
 have hn:nd (tk cars sup')=nd (tk cars sup):=rfl
 rw [hn] at e
 have hr:roomIn (tk cars sup) a (cheaper p (q+1))≤roomIn (tk cars sup') a (cheaper p (q+1)):=by
  rw [zY0 (zZ3 _ _),zY0 (zZ3 _ _),tk_n,tk_n]
  show sm sup.length _≤sm sup'.length _
  rw [hl]
  refine zWR fun t ht=>?_
  by_cases z:cheaper p (q+1) t=true
  ·rw [if_pos z,if_pos z,zZT fun c _=>ert c t ht]
   have h2:cp (tk cars sup) t≤cp (tk cars sup') t:=hm t
   lia
  ·rw [if_neg z,if_neg z]
   exact Nat.le_refl _
 lia
open GarLoad GarPlug
theorem zSc {cars:List Car}{loads left:List Nat}{c:Nat} (h:left.length=loads.length):j4 (tk cars loads) c left=tk (cars.drop (c+1)) left:=by
 unfold j4 tk
 rw [h,List.map_drop,List.map_drop]
theorem z0A {cars:List Car}{sup loads:List Nat} (h:loads.length=sup.length):{ tk cars sup with caps:=loads }=tk cars loads:=by
 show Task.mk _ (cars.map (rateAt sup.length)) _=Task.mk _ (cars.map (rateAt loads.length)) _
 rw [h]
 rfl
theorem zTp (n m:Nat):pairsOf (n+1) m=pairsOf n m++(List.range m).map fun (t:Nat)=>(n,t):=by
 unfold pairsOf
 rw [List.range_succ,List.flatMap_append]
 simp
theorem pairs_len:∀n m:Nat,(pairsOf n m).length=n * m
 | 0,m=>by
  rw [Nat.zero_mul]
  rfl
 | n+1,m=>by rw [zTp,zla,pairs_len n m,zlm,List.length_range,Nat.succ_mul]
theorem zSA {m c t:Nat} (ht:t < m):∀{n:Nat},c < n→(pairsOf n m)[c * m+t]?=some (c,t)
 | 0,h=>by lia
 | n+1,h=>by
  rw [zTp]
  by_cases q:c < n
  ·have hlt:c * m+t < n * m:=by
    have:(c+1) * m≤n * m:=Nat.mul_le_mul_right m q
    rw [Nat.succ_mul] at this
    lia
   rw [List.getElem?_append_left (by rw [pairs_len];exact hlt)]
   exact zSA ht q
  ·have e:c=n:=by lia
   subst e
   rw [List.getElem?_append_right (by rw [pairs_len];lia),pairs_len,Nat.add_sub_cancel_left,zgm,List.getElem?_range ht]
   rfl
theorem zQQ {n m c t:Nat} (hc:c < n) (ht:t < m):(pairsOf n m).drop (c * m+t)=(c,t)::(pairsOf n m).drop (c * m+t+1):=by
 have h:=zSA ht hc
 obtain ⟨h1,h2⟩:=List.getElem?_eq_some_iff.mp h
 rw [List.drop_eq_getElem_cons h1,h2]
theorem z0E (k:Task) (c t:Nat):mostAt k c t≤nd k c:=by
 unfold mostAt
 cases h:((List.range (min (min (k.needs.getD c 0) ((k.rates.getD c []).getD t 0)) (k.caps.getD t 0)+1)).reverse.find? fun (x:Nat)=>feasible (taken k c t x)) with
 | none=>exact Nat.zero_le _
 | some x=>
  have:=List.mem_of_find?_eq_some h
  rw [List.mem_reverse,List.mem_range] at this
  show x≤k.needs.getD c 0
  lia
structure x9 (cars:List Car) (loads:List Nat) (c t:Nat) (left plan:List Nat):Prop where
 ex:∃k,PInv (tk cars loads) k c t∧k.caps=left∧fillFrom (tk cars loads) (pairsOf cars.length loads.length)=plan++fillFrom k ((pairsOf cars.length loads.length).drop (c * loads.length+t))∧
  sm t (fun u=>plan.getD (loads.length * c+u) 0)+nd k c=nd (tk cars loads) c
 len:plan.length=loads.length * c+t
 full:∀i,i < c→sm loads.length (fun u=>plan.getD (loads.length * i+u) 0)=nd (tk cars loads) i
theorem x9.start {cars:List Car}{loads:List Nat} (F:feasible (tk cars loads)=true) (S:sumOf loads=sumOf (tk cars loads).needs):x9 cars loads 0 0 loads []:=
 ⟨⟨tk cars loads,PInv.start (zZ3 _ _) F S,rfl,by rw [Nat.zero_mul];rfl,by show 0+_=_;lia⟩,rfl,fun i hi=>by lia⟩
theorem x9.left_len {cars:List Car}{loads left plan:List Nat}{c t:Nat} (P:x9 cars loads c t left plan):left.length=loads.length:=by
 obtain ⟨k,I,e,_⟩:=P.ex
 rw [←e]
 exact I.m
theorem x9.step {cars:List Car}{loads left plan:List Nat}{c t:Nat} (P:x9 cars loads c t left plan) (hc:c < cars.length) (ht:t < loads.length) {v x:Nat} (hv:v=leastAt (tk (cars.drop (c+1)) left) t)
  (hx:x=min (canTake (cars.getD c car0) t) (left.getD t 0-v)):v≤left.getD t 0∧x9 cars loads c (t+1) (left.set t (left.getD t 0-x)) (plan++[x]):=by
 have hl:=P.left_len
 obtain ⟨k,I,e,hf,hs⟩:=P.ex
 obtain ⟨h1,h2,h3⟩:=I.step (zZ3 _ _) (by rw [tk_n];exact hc) ht
 rw [e,zSc hl,←hv,zU2 c ht] at h1
 rw [e,zSc hl,←hv] at h2
 have ec:cp k t=left.getD t 0:=by
  unfold cp
  rw [e]
 rw [ec] at h1 h2
 rw [←hx] at h1
 refine ⟨h2,⟨taken k c t (mostAt k c t),h3,?_,?_,?_⟩,?_,fun i hi=>?_⟩
 ·show k.caps.set t (k.caps.getD t 0-mostAt k c t)=_
  rw [e,h1]
 ·rw [hf,zQQ hc ht]
  show plan++(mostAt k c t::_)=_
  rw [h1,zaa]
  rfl
 ·have hle:=z0E k c t
  have en:nd (taken k c t (mostAt k c t)) c=nd k c-mostAt k c t:=by
   rw [zVH (by rw [I.n,tk_n];exact hc),qT]
  rw [en]
  show sm t _+(plan++[x]).getD (loads.length * c+t) 0+_=_
  have e1:(plan++[x]).getD (loads.length * c+t) 0=x:=by
   refine getD_some ?_
   rw [List.getElem?_append_right (by rw [P.len];lia),P.len,Nat.sub_self]
   rfl
  have e2:sm t (fun u=>(plan++[x]).getD (loads.length * c+u) 0)=sm t (fun u=>plan.getD (loads.length * c+u) 0):=yW fun u hu=>by
   rw [List.getD_eq_getElem?_getD,List.getD_eq_getElem?_getD,List.getElem?_append_left (by rw [P.len];lia)]
  rw [e1,e2]
  lia
 ·rw [zla,P.len]
  rfl
 ·rw [←P.full i hi]
  refine yW fun u hu=>?_
  have hlt:loads.length * i+u < plan.length:=by
   rw [P.len]
   have:loads.length * (i+1)≤loads.length * c:=Nat.mul_le_mul_left _ hi
   rw [Nat.mul_succ] at this
   lia
  rw [List.getD_eq_getElem?_getD,List.getD_eq_getElem?_getD,List.getElem?_append_left hlt]
theorem x9.next {cars:List Car}{loads left plan:List Nat}{c:Nat} (P:x9 cars loads c loads.length left plan):x9 cars loads (c+1) 0 left plan:=by
 obtain ⟨k,I,e,hf,hs⟩:=P.ex
 have I':PInv (tk cars loads) k (c+1) 0:=PInv.next (c:=c) I
 refine ⟨⟨k,I',e,?_,?_⟩,by rw [P.len,Nat.mul_succ];lia,fun i hi=>?_⟩
 ·rw [hf,Nat.succ_mul]
  rfl
 ·show 0+_=_
  rw [Nat.zero_add]
  exact I.ndn (c+1) (by lia)
 ·by_cases q:i=c
  ·subst q
   have:=I'.nd0 i (by lia)
   lia
  ·exact P.full i (by lia)
theorem x9.all {cars:List Car}{loads left plan:List Nat} (P:x9 cars loads cars.length 0 left plan):fillFrom (tk cars loads) (pairsOf cars.length loads.length)=plan:=by
 obtain ⟨k,I,e,hf,hs⟩:=P.ex
 rw [hf,List.drop_eq_nil_of_le (by rw [pairs_len];lia)]
 show plan++[]=plan
 exact List.append_nil _
theorem z4U (d:Day):planOf d=fillFrom (tk d.cars (loadsOf (tk d.cars d.supply) d.price)) (pairsOf d.cars.length (loadsOf (tk d.cars d.supply) d.price).length):=by
 unfold planOf
 rw [zWh,z0A zWf,zWf]
 rfl
theorem z5h {cars:List Car}{sup p:List Nat} (hp:p.length=sup.length) (F:feasible (tk cars sup)=true):feasible (tk cars (loadsOf (tk cars sup) p))=true∧sumOf (loadsOf (tk cars sup) p)=sumOf (tk cars (loadsOf (tk cars sup) p)).needs:=by
 obtain ⟨_,h2,h3,h4⟩:=zRk (zZ3 cars sup) hp F
 have e:feasible { tk cars sup with caps:=loadsOf (tk cars sup) p }=true:=h3
 rw [z0A (sup:=sup) h2] at e
 exact ⟨e,h4⟩
theorem zXO (q:Nat):∀(l:List Nat) (x:Nat),x∈putOnce q l↔x=q∨x∈l
 | [],x=>by
  unfold putOnce
  simp
 | y::r,x=>by
  unfold putOnce
  by_cases h:q < y
  ·rw [if_pos h]
   exact List.mem_cons
  ·rw [if_neg h]
   by_cases e:q=y
   ·rw [if_pos e,e]
    simp
   ·rw [if_neg e,List.mem_cons,zXO q r x,List.mem_cons]
    constructor
    ·rintro (h|h|h)
     ·exact .inr (.inl h)
     ·exact .inl h
     ·exact .inr (.inr h)
    ·rintro (h|h|h)
     ·exact .inr (.inl h)
     ·exact .inl h
     ·exact .inr (.inr h)
theorem zXF (q:Nat):∀{l:List Nat},l.Pairwise (· < ·)→(putOnce q l).Pairwise (· < ·)
 | [],_=>by
  unfold putOnce
  exact List.pairwise_singleton _ _
 | y::r,h=>by
  obtain ⟨h1,h2⟩:=List.pairwise_cons.mp h
  unfold putOnce
  by_cases z:q < y
  ·rw [if_pos z]
   refine List.pairwise_cons.mpr ⟨fun b hb=>?_,h⟩
   rcases List.mem_cons.mp hb with rfl|hb
   ·exact z
   ·have:=h1 b hb
    lia
  ·rw [if_neg z]
   by_cases e:q=y
   ·rw [if_pos e]
    exact h
   ·rw [if_neg e]
    refine List.pairwise_cons.mpr ⟨fun b hb=>?_,zXF q h2⟩
    rcases (zXO q r b).mp hb with rfl|hb
    ·lia
    ·exact h1 b hb
theorem zZ7:∀p:List Nat,(levels p).Pairwise (· < ·)
 | []=>List.Pairwise.nil
 | q::p=>zXF q (zZ7 p)
theorem zZX:∀(p:List Nat) (x:Nat),x∈levels p↔x∈p
 | [],x=>Iff.rfl
 | q::p,x=>by
  show x∈putOnce q (levels p)↔_
  rw [zXO,zZX p x,List.mem_cons]
theorem z3u {p l:List Nat} (hm:∀x,x∈l↔x∈p) (hs:l.Pairwise (· < ·)):l=levels p:=
 zXR (R:=fun a b:Nat=>a < b) (fun a b h1 h2=>by lia) l (levels p) hs (zZ7 p) fun x=>by rw [hm,zZX]
theorem z4y {p:List Nat} (h:p≠[]):levels p≠[]:=fun e=>by
 cases p with
 | nil=>exact h rfl
 | cons a p=>
  have:=(zZX (a::p) a).mpr List.mem_cons_self
  rw [e] at this
  cases this
theorem z3P {p:List Nat}{q m:Nat}{r:List Nat} (e:levels p=q::r) (hm:m∈p) (hle:∀y∈p,m≤y):m=q:=by
 have h1:q∈p:=(zZX p q).mp (by rw [e];exact List.mem_cons_self)
 have h2:=hle q h1
 have h3:=(zZX p m).mpr hm
 have hs:=zZ7 p
 rw [e] at h3 hs
 rcases List.mem_cons.mp h3 with z|z
 ·exact z
 ·have:=(List.pairwise_cons.mp hs).1 m z
  lia
theorem zTG:∀p:List Nat,(levels p).length≤p.length
 | []=>Nat.le_refl _
 | q::p=>by
  have h:∀l:List Nat,(putOnce q l).length≤l.length+1:=fun l=>by
   induction l with
   | nil=>exact Nat.le_refl _
   | cons y r ih=>
    unfold putOnce
    split
    ·exact Nat.le_refl _
    ·split
     ·exact Nat.le_succ _
     ·exact Nat.succ_le_succ ih
  have:=h (levels p)
  have:=zTG p
  show (putOnce q (levels p)).length≤p.length+1
  lia
def xW (sup p:List Nat) (q:Nat):List Nat:=(sup.zip p).map fun (x:Nat×Nat)=>if x.2 < q then x.1 else 0
theorem zSN {sup p:List Nat}{q:Nat} (h:p.length=sup.length):(xW sup p q).length=sup.length:=by
 unfold xW
 rw [zlm,List.length_zip,h,Nat.min_self]
theorem z1L {sup p:List Nat}{q t:Nat} (h:p.length=sup.length) (ht:t < sup.length):(xW sup p q).getD t 0=if p.getD t 0 < q then sup.getD t 0 else 0:=by
 unfold xW
 refine getD_some ?_
 have hp:t < p.length:=by lia
 have e:(sup.zip p)[t]?=some (sup[t],p[t]):=List.getElem?_zip_eq_some.mpr ⟨zge ht,zge hp⟩
 rw [zgm,e,vX hp,vX ht]
 rfl
theorem zT4 {cars:List Car}{sup p:List Nat} (h:p.length=sup.length) (q a:Nat):excess (tk cars (xW sup p q)) a=beyond (tk cars sup) (cheaper p q) a:=by
 unfold excess beyond
 rw [zZ9,zZ9,zWQ (zZ3 _ _),zY0 (zZ3 _ _),tk_n,tk_n]
 have e1:nd (tk cars (xW sup p q))=nd (tk cars sup):=rfl
 rw [e1]
 congr 1
 show sm (xW sup p q).length _=sm sup.length _
 rw [zSN h]
 refine yW fun t ht=>?_
 show min ((xW sup p q).getD t 0) _=_
 rw [z1L h ht,zZT (g:=fun c=>rt (tk cars sup) c t) fun c _=>by rw [zU2 c (by rw [zSN h];exact ht),zU2 c ht]]
 unfold cheaper
 by_cases z:p.getD t 0 < q
 ·rw [if_pos z,if_pos (by rw [zde];exact z)]
  rfl
 ·rw [if_neg z,if_neg (by rw [zde];exact z),Nat.zero_min]
theorem z3g {cars:List Car}{sup p:List Nat} (h:p.length=sup.length) (q:Nat):worst (tk cars (xW sup p q))=forcer (tk cars sup) (cheaper p q):=by
 unfold worst forcer
 have e:excess (tk cars (xW sup p q))=beyond (tk cars sup) (cheaper p q):=funext fun a=>zT4 h q a
 rw [e]
 rfl
theorem z0D {g:Nat→Nat}{c:Nat}:∀{n:Nat},c≤n→sm (n+1) g=sm n (fun i=>g (if i < c then i else i+1))+g c
 | 0,h=>by
  have:c=0:=by lia
  subst this
  rfl
 | n+1,h=>by
  show sm (n+1) g+g (n+1)=sm n _+g (if n < c then n else n+1)+g c
  by_cases q:c=n+1
  ·subst q
   rw [if_pos (by lia)]
   have e:sm n (fun i=>g (if i < n+1 then i else i+1))=sm n g:=yW fun i hi=>by rw [if_pos (by lia)]
   rw [e]
   rfl
  ·rw [z0D (c:=c) (by lia),if_neg (by lia)]
   lia
theorem zRs (P:Nat→Bool):∀n:Nat,∃a,a < 2 ^ n∧∀i,i < n→a.testBit i=P i
 | 0=>⟨0,by decide,fun i hi=>by lia⟩
 | n+1=>by
  obtain ⟨a,h1,h2⟩:=zRs P n
  cases e:P n with
  | false=>
   refine ⟨a,by rw [Nat.pow_succ];lia,fun i hi=>?_⟩
   by_cases q:i=n
   ·subst q
    rw [e,Nat.testBit_lt_two_pow h1]
   ·exact h2 i (by lia)
  | true=>
   refine ⟨2 ^ n+a,by rw [Nat.pow_succ];lia,fun i hi=>?_⟩
   by_cases q:i=n
   ·subst q
    rw [e,Nat.testBit_two_pow_add_eq,Nat.testBit_lt_two_pow h1]
    rfl
   ·rw [Nat.testBit_two_pow_add_gt (by lia)]
    exact h2 i (by lia)
def without {α:Type} (l:List α) (c:Nat):List α:=l.take c++l.drop (c+1)
theorem zUw {α:Type}{l:List α}{c:Nat} (h:c < l.length):(without l c).length+1=l.length:=by
 unfold without
 rw [zla,List.length_take,List.length_drop]
 lia
theorem zRT {α:Type}{l:List α}{c i:Nat}{d:α} (h:c < l.length):(without l c).getD i d=l.getD (if i < c then i else i+1) d:=by
 unfold without
 rw [List.getD_eq_getElem?_getD,List.getD_eq_getElem?_getD]
 by_cases q:i < c
 ·rw [if_pos q,List.getElem?_append_left (by rw [List.length_take];lia),List.getElem?_take_of_lt q]
 ·rw [if_neg q,List.getElem?_append_right (by rw [List.length_take];lia),List.getElem?_drop,List.length_take]
  congr 2
  lia
theorem zQo {cars:List Car}{c a b:Nat} (hc:c < cars.length) (hab:∀i,i < cars.length→a.testBit i=if i=c then true else b.testBit (if i < c then i else i-1)):
  Sub cars (pick (without cars c) b++[cars.getD c car0]) a:=fun f hf=>by
 rw [List.map_append,zYZ,zWo (without cars c) b f hf]
 have hl:=zUw hc
 unfold W
 rw [←hl,z0D (g:=fun i=>if a.testBit i=true then f (cars.getD i car0) else 0) (c:=c) (by lia)]
 have e1:a.testBit c=true:=by rw [hab c hc,if_pos rfl]
 show sm _ _+sumOf [f (cars.getD c car0)]=sm _ _+(if a.testBit c=true then f (cars.getD c car0) else 0)
 rw [e1,if_pos rfl]
 congr 1
 refine yW fun i hi=>?_
 show (if b.testBit i=true then f ((without cars c).getD i car0) else 0)=_
 rw [zRT hc]
 by_cases q:i < c
 ·have e3:a.testBit i=b.testBit i:=by rw [hab i (by lia),if_neg (by lia:¬i=c),if_pos q]
  simp only [if_pos q,e3]
 ·have e3:a.testBit (i+1)=b.testBit i:=by rw [hab (i+1) (by lia),if_neg (by lia:¬i+1=c),if_neg (by lia:¬i+1 < c),Nat.add_sub_cancel]
  simp only [if_neg q,e3]
theorem zQs:∀(l:List Nat),l≠[]→∃m,(l.foldr (fun (n:Nat) (z:Option Nat)=>match z with
 | none=>some n
 | some m=>some (min n m)) none)=some m∧m∈l∧∀y∈l,m≤y
 | [],h=>absurd rfl h
 | a::r,_=>by
  by_cases hr:r=[]
  ·subst hr
   exact ⟨a,rfl,List.mem_cons_self,fun y hy=>by
    rw [List.mem_singleton] at hy
    rw [hy]
    exact Nat.le_refl _⟩
  ·obtain ⟨m,e,h1,h2⟩:=zQs r hr
   rw [List.foldr_cons,e]
   refine ⟨min a m,rfl,?_,fun y hy=>?_⟩
   ·rcases Nat.le_total a m with z|z
    ·rw [Nat.min_eq_left z]
     exact List.mem_cons_self
    ·rw [Nat.min_eq_right z]
     exact zmc _ h1
   ·rcases List.mem_cons.mp hy with rfl|hy
    ·exact Nat.min_le_left _ _
    ·exact Nat.le_trans (Nat.min_le_right _ _) (h2 y hy)
def zQC (S:List Car) (sup:List Nat):Int:=(uS S sup:Int)-(xY S:Int)
theorem z5n {cars:List Car}{sup:List Nat}{c:Nat}{m:Int} (hc:c < cars.length) (F:feasible (tk cars sup)=true)
  (hm:∃S∈yT (without cars c),zQC (S++[cars.getD c car0]) sup=m) (hle:∀S∈yT (without cars c),m≤zQC (S++[cars.getD c car0]) sup):m=(moreFor (tk cars sup) c:Int):=by
 have Fe':=(xS (zZ3 cars sup)).mp F
 have val:∀S a,Sub cars S a→zQC S sup=((room (tk cars sup) a-wants (tk cars sup) a:Nat):Int):=fun S a h=>by
  unfold zQC
  have h1:=Fe' a
  rw [←zZ9,←zWQ (zZ3 _ _)] at h1
  rw [h.wants (sup:=sup),h.room (sup:=sup)]
  lia
 have toA:∀S∈yT (without cars c),∃a,a∈(sets (tk cars sup)).filter (fun (a:Nat)=>a.testBit c)∧Sub cars (S++[cars.getD c car0]) a:=fun S hS=>by
  obtain ⟨b,hb,rfl⟩:=zZz.mp hS
  obtain ⟨a,h1,h2⟩:=zRs (fun i=>if i=c then true else b.testBit (if i < c then i else i-1)) cars.length
  refine ⟨a,List.mem_filter.mpr ⟨List.mem_range.mpr (by rw [tk_n];exact h1),?_⟩,zQo hc h2⟩
  rw [h2 c hc]
  simp
 have toB:∀a∈(sets (tk cars sup)).filter (fun (a:Nat)=>a.testBit c),∃S∈yT (without cars c),Sub cars (S++[cars.getD c car0]) a:=fun a ha=>by
  obtain ⟨h1,h2⟩:=List.mem_filter.mp ha
  obtain ⟨b,h3,h4⟩:=zRs (fun i=>a.testBit (if i < c then i else i+1)) (without cars c).length
  refine ⟨pick (without cars c) b,zZz.mpr ⟨b,h3,rfl⟩,zQo hc fun i hi=>?_⟩
  have hl:=zUw hc
  by_cases q:i=c
  ·rw [if_pos q,q]
   exact h2
  ·rw [if_neg q]
   by_cases z:i < c
   ·rw [if_pos z,h4 i (by lia),if_pos z]
   ·rw [if_neg z,h4 (i-1) (by lia),if_neg (by lia),Nat.sub_add_cancel (by lia)]
 generalize hL:((sets (tk cars sup)).filter fun (a:Nat)=>a.testBit c).map (fun (a:Nat)=>room (tk cars sup) a-wants (tk cars sup) a)=L
 have hne:L≠[]:=by
  obtain ⟨S,hS,_⟩:=hm
  obtain ⟨a,ha,_⟩:=toA S hS
  rw [←hL]
  intro e
  rw [List.map_eq_nil_iff] at e
  rw [e] at ha
  cases ha
 obtain ⟨v,e,h1,h2⟩:=zQs L hne
 have e2:moreFor (tk cars sup) c=v:=by
  unfold moreFor
  rw [hL]
  exact congrArg (fun (z:Option Nat)=>z.getD 0) e
 rw [e2]
 rw [←hL] at h1 h2
 obtain ⟨a,ha,ea⟩:=List.mem_map.mp h1
 obtain ⟨S,hS,hs⟩:=toB a ha
 have h3:=hle S hS
 rw [val _ a hs,ea] at h3
 obtain ⟨S',hS',e'⟩:=hm
 obtain ⟨a',ha',hs'⟩:=toA S' hS'
 rw [val _ a' hs'] at e'
 have h4:=h2 _ (List.mem_map.mpr ⟨a',ha',rfl⟩)
 lia
open GarLoad GarPlug
def zX7 (x:Car) (n:Nat):Car:={ x with from_:=x.from_+n }
def kW (cars:List Car) (c n:Nat):List Car:=cars.set c (zX7 (cars.getD c car0) n)
theorem z0a {d:Day}{c n:Nat} (hc:c < d.cars.length):(comes d c n).cars=kW d.cars c n:=by
 unfold comes kW
 refine List.ext_getElem? fun i=>?_
 rw [zgm,List.getElem?_zipIdx,List.getElem?_set,Nat.zero_add]
 by_cases q:i < d.cars.length
 ·rw [zge q]
  by_cases z:i=c
  ·subst z
   rw [if_pos rfl,if_pos hc,vX hc]
   show some (if i=i then _ else _)=_
   rw [if_pos rfl]
   rfl
  ·rw [if_neg (fun e=>z e.symm)]
   show some (if i=c then _ else _)=_
   rw [if_neg z]
 ·rw [List.getElem?_eq_none (by lia),if_neg (by lia)]
  rfl
theorem zSt {d:Day}{c n:Nat}:(comes d c n).supply=d.supply:=rfl
theorem zTi {d:Day}{c n:Nat} (hc:c < d.cars.length):taskOf (comes d c n)=tk (kW d.cars c n) d.supply:=by rw [zWh,z0a hc,zSt]
theorem z4B {n:Nat}{f g:Nat→Nat}{a:Nat} (h:∀c,c < n→f c≤g c):W n f a≤W n g a:=zWR fun i hi=>by
 show (if a.testBit i=true then f i else 0)≤(if a.testBit i=true then g i else 0)
 split
 ·exact h i hi
 ·exact Nat.le_refl _
theorem z1d {cars:List Car}{c n:Nat}:(kW cars c n).length=cars.length:=List.length_set
theorem zX9 {cars:List Car}{c n i:Nat} (hc:c < cars.length):(kW cars c n).getD i car0=if i=c then zX7 (cars.getD c car0) n else cars.getD i car0:=zWt hc
theorem z03 {cars:List Car}{sup:List Nat}{c n n':Nat} (hc:c < cars.length) (h:n≤n') (F:feasible (tk (kW cars c n') sup)=true):feasible (tk (kW cars c n) sup)=true:=by
 rw [xS (zZ3 _ _)] at F ⊢
 intro a
 have q:=F a
 rw [tk_n,z1d] at q ⊢
 have e1:W cars.length (nd (tk (kW cars c n) sup)) a=W cars.length (nd (tk (kW cars c n') sup)) a:=zZT fun i _=>by
  rw [z3k,z3k,zX9 hc,zX9 hc]
  split<;>rfl
 rw [e1]
 refine Nat.le_trans q (zWR fun t ht=>?_)
 have ht:t < sup.length:=ht
 have e2:W cars.length (fun i=>rt (tk (kW cars c n') sup) i t) a≤W cars.length (fun i=>rt (tk (kW cars c n) sup) i t) a:=z4B fun i _=>by
  rw [zU2 i ht,zU2 i ht,zX9 hc,zX9 hc]
  split
  ·unfold canTake zX7
   show (if (cars.getD c car0).from_+n'≤t∧t < (cars.getD c car0).to_ then (cars.getD c car0).rate else 0)≤(if (cars.getD c car0).from_+n≤t∧t < (cars.getD c car0).to_ then (cars.getD c car0).rate else 0)
   split
   ·rw [if_pos (by lia)]
    exact Nat.le_refl _
   ·exact Nat.zero_le _
  ·exact Nat.le_refl _
 show min (sup.getD t 0) _≤min (sup.getD t 0) _
 lia
theorem z4t {cars:List Car}{c:Nat} (hc:c < cars.length):kW cars c 0=cars:=by
 unfold kW
 have e:zX7 (cars.getD c car0) 0=cars[c]:=by
  rw [vX hc]
  rfl
 rw [e]
 exact List.set_getElem_self hc
theorem z5r {d:Day}{c L:Nat} (hc:c < d.cars.length) (hL:L=0∨(d.cars.getD c car0).from_+L < (d.cars.getD c car0).to_) (hf:feasible (tk (kW d.cars c L) d.supply)=true)
  (he:¬(d.cars.getD c car0).from_+L+1 < (d.cars.getD c car0).to_∨¬feasible (tk (kW d.cars c (L+1)) d.supply)=true):lateness d c=L:=by
 unfold lateness
 rw [zge hc]
 have ex:d.cars[c]=d.cars.getD c car0:=(vX hc).symm
 show ((List.range (d.cars[c].to_-d.cars[c].from_)).reverse.find? fun (n:Nat)=>feasible (taskOf (comes d c n))).getD 0=L
 rw [ex]
 generalize hx:d.cars.getD c car0=x at *
 by_cases q:x.to_≤x.from_
 ·rw [Nat.sub_eq_zero_of_le q]
  have:L=0:=by lia
  rw [this]
  rfl
 ·obtain ⟨N,hN⟩:∃N,x.to_-x.from_=N+1:=⟨x.to_-x.from_-1,by lia⟩
  rw [hN]
  have e:=zUu (P:=fun n=>feasible (taskOf (comes d c n))) (x:=L) (by rw [zTi hc];exact hf) N (by lia) fun y h1 h2=>by
   show feasible (taskOf (comes d c y))=false
   rw [zTi hc]
   rcases he with z|z
   ·lia
   ·cases e:feasible (tk (kW d.cars c y) d.supply) with
    | false=>rfl
    | true=>exact absurd (z03 hc (by lia:L+1≤y) e) z
  rw [e]
  rfl
theorem z5i {α:Type} (l:List α) (a:Nat):(pick l a).length=count l.length a:=by
 rw [←List.reverse_reverse l]
 generalize l.reverse=r
 induction r with
 | nil=>rfl
 | cons c r ih=>
  rw [List.reverse_cons,zUP,zla,ih]
  unfold count
  rw [zla,List.length_singleton,List.range_succ,List.filter_append,zla]
  congr 1
  rw [List.filter_cons,List.filter_nil]
  split<;>rfl
theorem z1f (d:Day) {a:Nat} (h:a < 2 ^ d.cars.length):(kept d a).cars=pick d.cars (2 ^ d.cars.length-1-a):=by
 unfold kept pick
 show List.map _ (List.filter _ _)=_
 congr 1
 refine List.filter_congr fun x hx=>?_
 have hl:=zX1 hx
 have e:2 ^ d.cars.length-1-a=2 ^ d.cars.length-(a+1):=by lia
 rw [e,Nat.testBit_two_pow_sub_succ h]
 simp [hl]
theorem zTQ {d:Day}{a b:Nat}:lessSet d a b=true↔count d.cars.length a < count d.cars.length b∨(count d.cars.length a=count d.cars.length b∧(wants (taskOf d) a < wants (taskOf d) b∨(wants (taskOf d) a=wants (taskOf d) b∧a < b))):=by
 unfold lessSet
 rw [Bool.or_eq_true,zbt,Bool.or_eq_true,zbt,zde,zde,zde,beq_iff_eq,beq_iff_eq]
def z0G (d:Day) (z:Option Nat) (a:Nat):Option Nat:=match z with
 | none=>some a
 | some b=>if lessSet d a b=true then some a else some b
theorem zVV (d:Day):∀(l:List Nat) (b:Nat),∃r,l.foldl (z0G d) (some b)=some r∧r∈b::l∧∀x∈b::l,x=r∨lessSet d r x=true
 | [],b=>⟨b,rfl,List.mem_cons_self,fun x hx=>.inl (List.mem_singleton.mp hx)⟩
 | a::l,b=>by
  rw [List.foldl_cons]
  have tr:∀x y z,lessSet d x y=true→lessSet d y z=true→lessSet d x z=true:=fun x y z h1 h2=>by
   rw [zTQ] at h1 h2 ⊢
   lia
  by_cases q:lessSet d a b=true
  ·have e:z0G d (some b) a=some a:=if_pos q
   rw [e]
   obtain ⟨r,h1,h2,h3⟩:=zVV d l a
   refine ⟨r,h1,zmc _ h2,fun x hx=>?_⟩
   rcases List.mem_cons.mp hx with rfl|hx
   ·rcases h3 a List.mem_cons_self with z|z
    ·subst z
     exact .inr q
    ·exact .inr (tr _ _ _ z q)
   ·exact h3 x hx
  ·have e:z0G d (some b) a=some b:=if_neg q
   rw [e]
   obtain ⟨r,h1,h2,h3⟩:=zVV d l b
   refine ⟨r,h1,?_,fun x hx=>?_⟩
   ·rcases List.mem_cons.mp h2 with z|z
    ·rw [z]
     exact List.mem_cons_self
    ·exact zmc _ (zmc _ z)
   ·rcases List.mem_cons.mp hx with rfl|hx
    ·exact h3 _ List.mem_cons_self
    ·rcases List.mem_cons.mp hx with rfl|hx
     ·have h4:x=b∨lessSet d b x=true:=by
       rw [zTQ] at q ⊢
       lia
      rcases h4 with z|z
      ·rw [z]
       exact h3 b List.mem_cons_self
      ·rcases h3 b List.mem_cons_self with y|y
       ·subst y
        exact .inr z
       ·exact .inr (tr _ _ _ y z)
     ·exact h3 x (zmc _ hx)
theorem z36 {d:Day}{ranked:List Nat}{j r:Nat} (hm:∀x,x∈ranked↔x < 2 ^ d.cars.length) (hs:ranked.Pairwise fun a b=>lessSet d a b=true) (hr:ranked[j]?=some r)
  (hf:feasible (taskOf (kept d r))=true) (hb:∀i x,i < j→ranked[i]?=some x→¬feasible (taskOf (kept d x))=true):refused d=r:=by
 have hlt:=(hm r).mp (List.mem_of_getElem? hr)
 generalize hL:(sets (taskOf d)).filter (fun (a:Nat)=>feasible (taskOf (kept d a)))=L
 have mL:∀x,x∈L↔x < 2 ^ d.cars.length∧feasible (taskOf (kept d x))=true:=fun x=>by
  rw [←hL,List.mem_filter]
  unfold sets
  rw [List.mem_range,zWh,tk_n]
 have e1:refused d=(L.foldl (z0G d) none).getD 0:=by
  unfold refused
  rw [hL]
  rfl
 rw [e1]
 have hrL:r∈L:=(mL r).mpr ⟨hlt,hf⟩
 cases hc:L with
 | nil=>
  rw [hc] at hrL
  cases hrL
 | cons a l=>
  rw [List.foldl_cons]
  have e2:z0G d none a=some a:=rfl
  rw [e2]
  obtain ⟨z,h1,h2,h3⟩:=zVV d l a
  rw [h1]
  show z=r
  rw [←hc] at h2 h3
  rcases h3 r hrL with q|q
  ·exact q.symm
  ·obtain ⟨h4,h5⟩:=(mL z).mp h2
   obtain ⟨i,hi,ei⟩:=List.getElem_of_mem ((hm z).mpr h4)
   have ei':ranked[i]?=some z:=by rw [zge hi,ei]
   obtain ⟨hj,ej⟩:=List.getElem?_eq_some_iff.mp hr
   rcases Nat.lt_trichotomy i j with y|y|y
   ·exact absurd h5 (hb i z y ei')
   ·subst y
    rw [ei'] at hr
    exact zsi hr
   ·have h6:=List.pairwise_iff_getElem.mp hs j i hj hi y
    rw [ej,ei] at h6
    rw [zTQ] at h6 q
    lia
theorem zTs (sup:List Nat):feasible (tk [] sup)=true:=by
 rw [xS (zZ3 _ _)]
 intro a
 exact Nat.zero_le _
theorem z5g (d:Day):feasible (taskOf (kept d (2 ^ d.cars.length-1)))=true:=by
 have h:=Nat.two_pow_pos d.cars.length
 rw [zWh,z1f d (by lia),Nat.sub_self,z01]
 exact zTs _
theorem z3H {α:Type}{P:α→Bool}:∀{l:List α}{i:Nat}{x:α},l[i]?=some x→P x=true→(∀j y,j < i→l[j]?=some y→P y=false)→l.find? P=some x
 | [],i,x,h,_,_=>by simp at h
 | a::l,0,x,h,hx,_=>by
  have e:a=x:=zsi h
  subst e
  exact List.find?_cons_of_pos hx
 | a::l,i+1,x,h,hx,hb=>by
  rw [List.find?_cons_of_neg (by rw [hb 0 a (by lia) rfl];decide)]
  exact z3H (l:=l) (i:=i) h hx fun j y hj hy=>hb (j+1) y (by lia) hy
theorem z5k {α:Type}{P:α→Bool}{l:List α} (hb:∀(j:Nat) (y:α),l[j]?=some y→P y=false):l.find? P=none:=by
 rw [List.find?_eq_none]
 intro x hx
 obtain ⟨i,hi,e⟩:=List.getElem_of_mem hx
 rw [hb i x (by rw [zge hi,e])]
 decide
theorem z09 {s c:Nat} (h:s.testBit c=false) (j:Nat):(2 ^ c+s).testBit j=(decide (j=c) || s.testBit j):=by
 have hr:s % 2 ^ (c+1) < 2 ^ c:=by
  rcases Nat.lt_or_ge (s % 2 ^ (c+1)) (2 ^ c) with z|z
  ·exact z
  ·have h1:s % 2 ^ (c+1) < 2 ^ (c+1):=Nat.mod_lt _ (Nat.two_pow_pos _)
   obtain ⟨r,er⟩:∃r,s % 2 ^ (c+1)=2 ^ c+r:=⟨_,(Nat.add_sub_cancel' z).symm⟩
   have h2:r < 2 ^ c:=by
    rw [Nat.pow_succ] at h1
    lia
   have h3:(s % 2 ^ (c+1)).testBit c=true:=by
    rw [er,Nat.testBit_two_pow_add_eq,Nat.testBit_lt_two_pow h2]
    rfl
   rw [Nat.testBit_mod_two_pow,h] at h3
   simp at h3
 generalize er:s % 2 ^ (c+1)=r at hr
 have es:s=2 ^ (c+1) * (s / 2 ^ (c+1))+r:=by
  rw [←er]
  exact (Nat.div_add_mod _ _).symm
 generalize s / 2 ^ (c+1)=q at es
 have h1:2 ^ c+r < 2 ^ (c+1):=by
  rw [Nat.pow_succ]
  lia
 have h2:r < 2 ^ (c+1):=by
  rw [Nat.pow_succ]
  lia
 have es2:2 ^ c+s=2 ^ (c+1) * q+(2 ^ c+r):=by lia
 rw [es2,es,Nat.testBit_two_pow_mul_add _ h1,Nat.testBit_two_pow_mul_add _ h2]
 by_cases z:j < c+1
 ·rw [if_pos z,if_pos z]
  by_cases y:j=c
  ·subst y
   rw [Nat.testBit_two_pow_add_eq,Nat.testBit_lt_two_pow hr]
   simp
  ·rw [Nat.testBit_two_pow_add_gt (by lia)]
   simp [y]
 ·rw [if_neg z,if_neg z]
  have:¬j=c:=by lia
  simp [this]
theorem zU7:∀{l:List Nat},l.Nodup→∀j,(WqgarjSpec.setOf l).testBit j=decide (j∈l)
 | [],_,j=>by
  show (0:Nat).testBit j=_
  simp
 | c::l,h,j=>by
  obtain ⟨h1,h2⟩:=List.nodup_cons.mp h
  have ih:=zU7 h2
  show (2 ^ c+WqgarjSpec.setOf l).testBit j=_
  rw [z09 (by rw [ih c];exact decide_eq_false h1),ih j]
  simp
theorem z5q {n:Nat}{f:Nat→Nat}{a b c:Nat} (hc:c < n) (hb:∀j,b.testBit j=(decide (j=c) || a.testBit j)) (ha:a.testBit c=false):W n f b=f c+W n f a:=by
 rw [zWH hc,zWH (a:=a) hc,ha,hb c]
 have:W n (upd f c 0) b=W n (upd f c 0) a:=z0X fun i hi=>by
  rw [hb i]
  simp [hi]
 rw [this]
 simp
 lia
theorem z3o {cars:List Car}:∀{l:List Nat},l.Nodup→(∀c∈l,c < cars.length)→Sub cars (l.map fun c=>cars.getD c car0) (WqgarjSpec.setOf l)
 | [],_,_=>fun f _=>by
  show 0=W _ _ 0
  rw [zUg]
 | c::l,h,hl=>fun f hf=>by
  obtain ⟨h1,h2⟩:=List.nodup_cons.mp h
  have ih:=z3o h2 (fun x hx=>hl x (zmc _ hx)) f hf
  have hb:=zU7 h2
  show f (cars.getD c car0)+sumOf ((l.map fun c=>cars.getD c car0).map f)=W _ _ (2 ^ c+WqgarjSpec.setOf l)
  have hbc:(WqgarjSpec.setOf l).testBit c=false:=by
   rw [hb c]
   exact decide_eq_false h1
  rw [ih,z5q (f:=fun c=>f (cars.getD c car0)) (hl c List.mem_cons_self) (z09 hbc) hbc]
end Chg
namespace ChS
open PySem
def zUR (xs:Array Nat):Prop:=∀i j,i < j→j < xs.size→xs.getD i 0 < xs.getD j 0
theorem zU1 {xs:Array Nat}{i d:Nat} (h:i < xs.size):xs.getD i d=xs[i]:=by
 unfold Array.getD
 rw [dif_pos h]
 rfl
theorem z4D {xs:Array Nat}{i d:Nat} (h:i < xs.size):xs.getD i d=xs.getD i 0:=by rw [zU1 h,zU1 h]
structure Cut (xs:Array Nat) (j p:Nat):Prop where
 le:p≤xs.size
 lo:∀i,i < p→xs.getD i 0 < j
 hi:∀i,p≤i→i < xs.size→j≤xs.getD i 0
theorem z1M {xs:Array Nat}{j:Nat} (R:zUR xs):∀(f lo hi:Nat),lo≤hi→hi≤xs.size→hi-lo≤f→(∀i,i < lo→xs.getD i 0 < j)→(∀i,hi≤i→i < xs.size→j≤xs.getD i 0)→Cut xs j (SetTable.below.go xs j f lo hi)
 | 0,lo,hi,h1,h2,h3,h4,h5=>by
  have e:lo=hi:=by lia
  subst e
  exact ⟨h2,h4,h5⟩
 | f+1,lo,hi,h1,h2,h3,h4,h5=>by
  unfold SetTable.below.go
  by_cases q:lo < hi
  ·rw [if_pos q]
   have hm:(lo+hi) / 2 < xs.size:=by lia
   show Cut xs j (if xs.getD ((lo+hi) / 2) j < j then SetTable.below.go xs j f ((lo+hi) / 2+1) hi else SetTable.below.go xs j f lo ((lo+hi) / 2))
   rw [z4D hm]
   by_cases z:xs.getD ((lo+hi) / 2) 0 < j
   ·rw [if_pos z]
    refine z1M R f _ _ (by lia) h2 (by lia) (fun i hlt=>?_) h5
    rcases Nat.lt_or_ge i ((lo+hi) / 2) with y|y
    ·have:=R i _ y hm
     lia
    ·rw [show i=(lo+hi) / 2 by lia]
     exact z
   ·rw [if_neg z]
    refine z1M R f _ _ (by lia) (by lia) (by lia) h4 (fun i hi hs=>?_)
    rcases Nat.eq_or_lt_of_le hi with y|y
    ·rw [←y]
     lia
    ·have:=R _ i y hs
     lia
  ·rw [if_neg q]
   have e:lo=hi:=by lia
   subst e
   exact ⟨h2,h4,h5⟩
theorem zUH {xs:Array Nat}{j:Nat} (R:zUR xs):Cut xs j (SetTable.below xs j):=
 z1M R _ _ _ (Nat.zero_le _) (Nat.le_refl _) (by lia) (fun i h=>by lia) (fun i h1 h2=>by lia)
theorem z2q {xs:Array Nat}{p j:Nat} (hp:p≤xs.size):(SetTable.insertAt xs p j).size=xs.size+1:=by
 unfold SetTable.insertAt
 rw [Array.size_append,Array.size_push,Array.size_extract,Array.size_extract]
 lia
theorem zUo {xs:Array Nat}{p j i:Nat} (hp:p≤xs.size):(SetTable.insertAt xs p j).getD i 0=if i < p then xs.getD i 0 else if i=p then j else xs.getD (i-1) 0:=by
 have h:∀(ys:Array Nat) (k:Nat),ys.getD k 0=(ys[k]?).getD 0:=fun ys k=>by
  rw [Array.getD_eq_getD_getElem?]
 rw [h,h,h]
 unfold SetTable.insertAt
 rw [Array.getElem?_append,Array.size_push,Array.size_extract]
 have e0:min p xs.size-0=p:=by lia
 rw [e0]
 by_cases q:i < p
 ·rw [if_pos (by lia),if_pos q,Array.getElem?_push,Array.size_extract,e0,if_neg (by lia),Array.getElem?_extract]
  have:i < min p xs.size-0:=by lia
  rw [if_pos this,Nat.zero_add]
 ·rw [if_neg q]
  by_cases z:i=p
  ·rw [if_pos z,if_pos (by lia),Array.getElem?_push,Array.size_extract,e0,if_pos z]
   rfl
  ·rw [if_neg z,if_neg (by lia),Array.getElem?_extract]
   by_cases y:i-(p+1) < min xs.size xs.size-p
   ·rw [if_pos y]
    congr 2
    lia
   ·rw [if_neg y,Array.getElem?_eq_none (by lia)]
theorem zQ0 {xs:Array Nat}{j:Nat} (R:zUR xs) (hn:xs[SetTable.below xs j]?≠some j):zUR (SetTable.insertAt xs (SetTable.below xs j) j):=by
 have C:=zUH (j:=j) R
 generalize hp:SetTable.below xs j=p at C hn
 have hj:∀i,p≤i→i < xs.size→j < xs.getD i 0:=fun i h1 h2=>by
  have h3:=C.hi i h1 h2
  rcases Nat.eq_or_lt_of_le h1 with e|e
  ·subst e
   rw [zU1 h2] at h3 ⊢
   rw [Array.getElem?_eq_getElem h2] at hn
   have:¬xs[p]=j:=fun z=>hn (by rw [z])
   lia
  ·have h4:=R p i e h2
   have h5:=C.hi p (Nat.le_refl _) (by lia)
   lia
 intro a b hab hb
 rw [z2q C.le] at hb
 rw [zUo C.le,zUo C.le]
 by_cases q1:a < p
 ·rw [if_pos q1]
  by_cases q2:b < p
  ·rw [if_pos q2]
   exact R a b hab (by have:=C.le;lia)
  ·rw [if_neg q2]
   have:=C.lo a q1
   by_cases q3:b=p
   ·rw [if_pos q3]
    exact this
   ·rw [if_neg q3]
    have:=hj (b-1) (by lia) (by lia)
    lia
 ·have n1:¬b < p:=by lia
  have n2:¬b=p:=by lia
  simp only [if_neg q1,if_neg n1,if_neg n2]
  by_cases q3:a=p
  ·rw [if_pos q3]
   exact hj (b-1) (by lia) (by lia)
  ·rw [if_neg q3]
   exact R (a-1) (b-1) (by lia) (by lia)
structure Tb (b:Bool) (t:SetTable):Prop where
 rise:zUR t.place
 nod:t.dummies=#[]
 led:t.led=b
theorem Tb.fresh (b:Bool) (f m:Nat):Tb b (.fresh f m b):=⟨fun i j h1 h2=>absurd (show j < 0 from h2) (by lia),rfl,rfl⟩
theorem Tb.plain {b:Bool}{t:SetTable} (h:Tb b t) (p:Bool):Tb b { t with plain:=p }:=⟨h.rise,h.nod,h.led⟩
theorem zS0 (n:Nat):zUR (Array.range n):=fun i j h1 h2=>by
 rw [Array.size_range] at h2
 rw [zU1 (by rw [Array.size_range];lia),zU1 (by rw [Array.size_range];lia),Array.getElem_range,Array.getElem_range]
 exact h1
theorem Tb.standIn {b:Bool}{t:SetTable} (h:Tb b t) (n:Nat):Tb b (t.standIn n):=⟨zS0 n,rfl,h.led⟩
theorem Tb.orStandIn {b:Bool}{t:SetTable} (h:Tb b t) (n:Nat):Tb b (t.orStandIn n):=by
 unfold SetTable.orStandIn
 split
 ·exact h
 ·exact h.standIn n
theorem zR9 {t:SetTable} (h:t.dummies=#[]) (j:Nat):SetTable.has t.dummies j=false:=by
 unfold SetTable.has
 rw [h]
 rfl
theorem zQW {t:SetTable}{j:Nat} (e:t.slot j=.empty):t.place[SetTable.below t.place j]?≠some j:=fun q=>by
 unfold SetTable.slot at e
 simp only [q,beq_self_eq_true,if_true] at e
 cases e
theorem zTV {b:Bool}{t:SetTable} (h:Tb b t) {j:Nat}:t.slot j≠.dummy:=fun e=>by
 unfold SetTable.slot at e
 rw [zR9 h.nod] at e
 simp only [Bool.false_eq_true,if_false] at e
 split at e<;>cases e
theorem zQA {b:Bool}{t:SetTable} (h:Tb b t) {hash:Nat→Int}{z:Int}:∀(f:Nat) (p:SetTable.Probe) {j:Nat}{d:Option Nat},p.dummy=none→SetTable.probe.go t hash z f p=some (.empty j d)→d=none∧t.slot j=.empty
 | 0,p,j,d,_,e=>by
  unfold SetTable.probe.go at e
  cases e
 | f+1,p,j,d,hp,e=>by
  unfold SetTable.probe.go at e
  have adv:∀q:SetTable.Probe,(t.advance q).dummy=q.dummy:=fun q=>by
   unfold SetTable.advance
   split<;>rfl
  cases hs:t.slot p.j with
  | empty=>
   rw [hs] at e
   simp only [Option.some.injEq,SetTable.Met.empty.injEq] at e
   exact ⟨by rw [←e.2,hp],by rw [←e.1];exact hs⟩
  | dummy=>exact absurd hs (zTV h)
  | live i=>
   rw [hs] at e
   simp only at e
   split at e
   ·cases e
   ·exact zQA h f _ (by rw [adv];exact hp) e
theorem zQ9 {b:Bool}{t:SetTable} (h:Tb b t) {z:Int}{j:Nat}{d:Bool} (e:t.freeSlot z=some (j,d)):t.slot j=.empty:=by
 unfold SetTable.freeSlot at e
 split at e
 ·rename_i j' d' hq
  unfold SetTable.probe at hq
  obtain ⟨rfl,h2⟩:=zQA h _ _ rfl hq
  simp only [Option.getD_none,Option.some.injEq,Prod.mk.injEq] at e
  rw [←e.1]
  exact h2
 ·cases e
theorem Tb.put {b:Bool}{t:SetTable} (h:Tb b t) {j:Nat} (e:t.slot j=.empty):Tb b (t.put j).1:=by
 unfold SetTable.put
 refine ⟨zQ0 h.rise (zQW e),?_,h.led⟩
 show (if SetTable.has t.dummies j=true then _ else t.dummies)=#[]
 rw [zR9 h.nod,if_neg (by decide)]
 exact h.nod
theorem Tb.lay {b:Bool}{t:SetTable} (h:Tb b t) (es:Array (Int×Value)) (z:Int) (x:Value):Tb b (layNew t es z x).2.1:=by
 unfold layNew
 split
 ·rename_i j d hq
  exact (h.put (zQ9 h hq)).orStandIn _
 ·exact h.standIn _
theorem zS4 {f:Nat→Option Nat}:∀(l:List Nat),l.Pairwise (· < ·)→((l.filterMap fun j=>(f j).map (j,·)).map (·.1)).Pairwise (· < ·)∧∀x∈(l.filterMap fun j=>(f j).map (j,·)).map (·.1),x∈l
 | [],_=>⟨List.Pairwise.nil,fun x hx=>by cases hx⟩
 | a::l,h=>by
  obtain ⟨h1,h2⟩:=List.pairwise_cons.mp h
  obtain ⟨h3,h4⟩:=zS4 (f:=f) l h2
  rw [List.filterMap_cons]
  cases f a with
  | none=>exact ⟨h3,fun x hx=>zmc _ (h4 x hx)⟩
  | some k=>
   refine ⟨List.pairwise_cons.mpr ⟨fun x hx=>h1 x (h4 x hx),h3⟩,fun x hx=>?_⟩
   rcases List.mem_cons.mp hx with e|e
   ·rw [e]
    exact List.mem_cons_self
   ·exact zmc _ (h4 x e)
theorem z0l {l:List Nat} (h:l.Pairwise (· < ·)):zUR l.toArray:=fun i j h1 h2=>by
 rw [zU1 (by lia),zU1 h2]
 simp only [List.getElem_toArray]
 exact List.pairwise_iff_getElem.mp h i j _ _ h1
theorem Tb.laid {b p:Bool}{mask f m:Nat}{hs:Array Int}{t:SetTable}{order:Array Nat} (e:SetTable.laid mask f m b p hs=some (t,order)):Tb b t:=by
 unfold SetTable.laid at e
 cases ho:SetTable.layClean mask hs with
 | none=>
  rw [ho] at e
  cases e
 | some owner=>
  rw [ho] at e
  have e2:=zsi e
  have e3:=(Prod.mk.inj e2).1
  rw [←e3]
  exact ⟨z0l (zS4 _ (by rw [List.range_eq_range'];exact List.pairwise_lt_range')).1,rfl,rfl⟩
theorem Tb.relay {b:Bool}{t:SetTable} (h:Tb b t) (es:Array (Int×Value)) (n:Nat):Tb b (relayAll t es n).2.1:=by
 unfold relayAll
 split
 ·rename_i t' order hq
  dsimp only
  split
  ·unfold SetTable.relaid at hq
   rw [h.led] at hq
   exact Tb.laid hq
  ·exact h.standIn _
 ·exact h.standIn _
open PySem PyProof.Rows
def nm:Value→Int
 | .int n _=>n
 | _=>0
def keys (es:Array (Int×Value)):List Int:=es.toList.map fun e=>nm e.2
section
variable (prog:Program) (w:World)
def SetR (h:Heap) (a:Addr) (b:Bool) (ks:List Int):Prop:=
 ∃o es ep t,h.get? a=some o∧o.ExactSet∧o.data=.set es ep t∧ElemsOf (intKind prog w) es.toList∧(∀e∈es.toList,∃n u,e.2=Value.int n u)∧keys es=ks∧ks.Nodup∧es.size < scanBound∧t.fits es.size=true∧Tb b t
end
section
variable {prog:Program}{w:World}{A:Around}{E:Value→Shared→Prop}{s:Shared}{a:Addr}{b:Bool}{ks:List Int}
theorem SetR.at_ {h h':Heap} (x:SetR prog w h a b ks) (k:∀o,h.get? a=some o→h'.get? a=some o):SetR prog w h' a b ks:=by
 obtain ⟨o,es,ep,t,ho,r⟩:=x
 exact ⟨o,es,ep,t,k o ho,r⟩
theorem keys_len (es:Array (Int×Value)):(keys es).length=es.size:=by
 unfold keys
 rw [zlm,Array.length_toList]
theorem z4E {k n:Int}{u:Tok} (h:(intKind prog w).is k (.int n u)=true):k=n:=(intKind prog w).inj _ _ _ h (intKind_is _ _ _ _)
theorem stored {o:Obj}{es es1:Array (Int×Value)}{ep:Nat}{t t1:SetTable}{h:Heap} (ho:h.get? a=some o) (hx:o.ExactSet) (hd:o.data=.set es ep t) (el:ElemsOf (intKind prog w) es1.toList) (hi:∀e∈es1.toList,∃n u,e.2=Value.int n u)
  (hn:(keys es1).Nodup) (hb:es1.size < scanBound) (hf:t1.fits es1.size=true) (hT:Tb b t1):
  (h.update a (Obj.putSet es1 t1)).get? a=some { o with data:=.set es1 (ep+1) t1 }∧SetR prog w (h.update a (Obj.putSet es1 t1)) a b (keys es1):=by
 have g:=(SetOf_store (knd:=intKind prog w) (S':=fun k=>decide (∃e∈es1.toList,(intKind prog w).is k e.2=true)) ho hx hd el (fun k=>by rw [zde]) hb hf).1
 exact ⟨g,_,es1,ep+1,t1,g,hx,rfl,el,hi,rfl,hn,hb,hf,hT⟩
theorem zQu {g:Bool→Sem Unit} (hg:∀(c:Bool) (s1:Shared) (Q':Unit→Shared→Prop),Q' () s1→wpAny (model prog w) A (g c) Q' E s1) {o:Obj}{es es1:Array (Int×Value)}{ep:Nat}{t t1:SetTable}{d:Bool}{R:Option Bool→Shared→Prop}
  (ho:s.heap.get? a=some o) (hx:o.ExactSet) (hd:o.data=.set es ep t) (el:ElemsOf (intKind prog w) es1.toList) (hi:∀e∈es1.toList,∃n u,e.2=Value.int n u) (hn:(keys es1).Nodup) (hb:es1.size < scanBound) (hf:t1.fits es1.size=true) (hT:Tb b t1)
  (h:∀h' ks',Heap.SameBut a s.heap h'→SetR prog w h' a b ks'→ks'.Perm (keys es1)→R (some true) { s with heap:=h' }):
  wpAny (model prog w) A (do
   storeSet a es1 t1
   if (!d && t1.tooFull)=true then do
     g (relayAll t1 es1 (SetTable.grown es1.size)).2.2
     storeSet a (relayAll t1 es1 (SetTable.grown es1.size)).1 (relayAll t1 es1 (SetTable.grown es1.size)).2.1
     pure (some true)
    else pure (some true)) R E s:=by
 obtain ⟨g1,r1⟩:=stored (b:=b) ho hx hd el hi hn hb hf hT
 have sb:=Heap.SameBut.update s.heap a (Obj.putSet es1 t1)
 refine wpAny_bind (wpAny_storeSet_of ho hd ?_ (fits_of_scanBound hb))
 split
 ·have p:=relayAll_perm t1 es1 (SetTable.grown es1.size)
  have f2:=relayAll_fits t1 es1 (SetTable.grown es1.size)
  have T2:=hT.relay es1 (SetTable.grown es1.size)
  generalize relayAll t1 es1 (SetTable.grown es1.size)=L at p f2 T2 ⊢
  obtain ⟨es2,t2,c⟩:=L
  dsimp only at p f2 T2 ⊢
  have kp:(keys es2).Perm (keys es1):=p.map _
  have sz:es2.size=es1.size:=by rw [←keys_len,←keys_len,kp.length_eq]
  refine wpAny_bind (hg c _ _ ?_)
  refine wpAny_bind (wpAny_storeSet_of g1 rfl ?_ (fits_of_scanBound (by rw [sz];exact hb)))
  obtain ⟨_,r2⟩:=stored (b:=b) g1 hx rfl (el.perm p) (fun e he=>hi e (p.mem_iff.mp he)) (kp.nodup_iff.mpr hn) (by rw [sz];exact hb) f2 T2
  exact wpAny_pure (h _ _ (sb.trans (Heap.SameBut.update _ a _)) r2 kp)
 ·exact wpAny_pure (h _ _ sb r1 (List.Perm.refl _))
theorem add_int {k:Int}{u:Tok}{Q:Bool→Shared→Prop} (hS:SetR prog w s.heap a b ks) (hr:ks.length+1 < scanBound)
  (h:∀h' ks' c,Heap.SameBut a s.heap h'→SetR prog w h' a b ks'→ks'.Perm (if k∈ks then ks else ks++[k])→Q c { s with heap:=h' }):
  wpAny (model prog w) A (setAddHashed a (.int k u) ((intKind prog w).hash k)) Q E s:=by
 obtain ⟨o,es,ep,t,ho,hx,hd,el,hi,hk,hn,hb,hf,hT⟩:=id hS
 have sz:es.size=ks.length:=by rw [←keys_len,hk]
 have hkey:(intKind prog w).is k (.int k u)=true:=intKind_is _ _ _ _
 unfold setAddHashed setAddHashedIn
 refine wpAny_holding (wpAny_bind (wpAny_setState_of ho hd hf ?_))
 dsimp only
 rw [byScan_of (knd:=intKind prog w) rfl hb el]
 simp only [↓reduceIte]
 unfold setAddByScan
 refine wpAny_bind (wpAny_bind (wpAny_rule (wpAny_bind (wpAny_setScan_of hkey ho hd hf el ?_))))
 have mem:k∈ks↔∃e∈es.toList,(intKind prog w).is k e.2=true:=by
  rw [←hk]
  unfold keys
  rw [List.mem_map]
  constructor
  ·rintro ⟨e,he,q⟩
   obtain ⟨n,v,e2⟩:=hi e he
   rw [e2] at q
   have q2:n=k:=q
   exact ⟨e,he,by rw [e2,q2];exact intKind_is _ _ _ _⟩
  ·rintro ⟨e,he,q⟩
   obtain ⟨n,v,e2⟩:=hi e he
   rw [e2] at q
   exact ⟨e,he,by rw [e2,z4E q];rfl⟩
 cases hf':List.findIdx? (fun e=>(intKind prog w).is k e.2) es.toList with
 | some j=>
  dsimp only
  obtain ⟨hj,hp,_⟩:=List.findIdx?_eq_some_iff_getElem.mp hf'
  have hm:k∈ks:=mem.mpr ⟨_,List.getElem_mem hj,hp⟩
  exact wpAny_pure (wpAny_pure (h s.heap ks _ (Heap.SameBut.refl a _) hS (by rw [if_pos hm])))
 | none=>
  dsimp only
  have hm:¬k∈ks:=fun q=>by
   obtain ⟨e,he,hp⟩:=mem.mp q
   have z:=List.findIdx?_eq_none_iff.mp hf' e he
   rw [hp] at z
   cases z
  have p:=layNew_perm t es ((intKind prog w).hash k) (.int k u)
  have f1:=layNew_fits t es ((intKind prog w).hash k) (.int k u)
  have T1:=hT.lay es ((intKind prog w).hash k) (.int k u)
  generalize layNew t es ((intKind prog w).hash k) (.int k u)=L at p f1 T1 ⊢
  obtain ⟨es1,t1,d,c⟩:=L
  dsimp only at p f1 T1 ⊢
  rw [Array.toList_push] at p
  have el1:ElemsOf (intKind prog w) es1.toList:=(el.push hkey rfl).perm p
  have hi1:∀e∈es1.toList,∃n v,e.2=Value.int n v:=fun e he=>by
   rcases List.mem_append.mp (p.mem_iff.mp he) with q|q
   ·exact hi e q
   ·rw [List.mem_singleton.mp q]
    exact ⟨_,_,rfl⟩
  have kp:(keys es1).Perm (ks++[k]):=by
   have:=p.map fun e:Int×Value=>nm e.2
   rw [List.map_append] at this
   rw [←hk]
   exact this
  have hn1:(keys es1).Nodup:=kp.nodup_iff.mpr (List.nodup_append.mpr ⟨hn,by simp,fun x hx y hy=>by
   rw [List.mem_singleton.mp hy]
   intro e
   exact hm (by rw [←e];exact hx)⟩)
  have hb1:es1.size < scanBound:=by
   rw [←keys_len,kp.length_eq,zla]
   exact hr
  have gw:∀(c:Bool) (s1:Shared) (Q':Unit→Shared→Prop),Q' () s1→wpAny (model prog w) A (match c with|true=>rule "set.scan.the-table-gave-way" | false=>pure ()) Q' E s1:=fun c s1 Q' q=>by
   cases c
   ·exact wpAny_pure q
   ·exact wpAny_rule q
  have fin:∀h' ks',Heap.SameBut a s.heap h'→SetR prog w h' a b ks'→ks'.Perm (keys es1)→∀c,Q c { s with heap:=h' }:=fun h' ks' sb r q c=>h h' ks' c sb r (by rw [if_neg hm];exact q.trans kp)
  refine wpAny_bind (gw c _ _ ?_)
  split
  ·refine wpAny_bind ?_
   rw [hashByValue_scannable 8 rfl]
   refine wpAny_pure ?_
   refine zQu (b:=b) gw ho hx hd el1 hi1 hn1 hb1 ?_ ?_ fun h' ks' sb r q=>?_
   ·split
    ·exact f1
    ·exact SetTable.fits_plain_off f1
   ·split
    ·exact T1
    ·exact T1.plain _
   ·dsimp only
    exact wpAny_pure (fin h' ks' sb r q _)
  ·refine wpAny_bind (wpAny_pure ?_)
   simp only [↓reduceIte]
   refine zQu (b:=b) gw ho hx hd el1 hi1 hn1 hb1 f1 T1 fun h' ks' sb r q=>?_
   dsimp only
   exact wpAny_pure (fin h' ks' sb r q _)
end
open PySem PyProof.Rows
def Once (ks ns:List Int):Prop:=ks.Nodup∧∀k,k∈ks↔k∈ns
theorem Once.nil:Once [] []:=⟨List.nodup_nil,fun _=>Iff.rfl⟩
theorem Once.step {ks ks' ns:List Int}{k:Int} (h:Once ks ns) (p:ks'.Perm (if k∈ks then ks else ks++[k])):Once ks' (ns++[k]):=by
 by_cases q:k∈ks
 ·rw [if_pos q] at p
  refine ⟨p.nodup_iff.mpr h.1,fun x=>?_⟩
  rw [p.mem_iff,h.2 x,List.mem_append,List.mem_singleton]
  constructor
  ·exact .inl
  ·rintro (z|z)
   ·exact z
   ·rw [z]
    exact (h.2 k).mp q
 ·rw [if_neg q] at p
  refine ⟨p.nodup_iff.mpr (List.nodup_append.mpr ⟨h.1,by simp,fun x hx y hy=>?_⟩),fun x=>?_⟩
  ·rw [List.mem_singleton.mp hy]
   intro e
   exact q (by rw [←e];exact hx)
  ·rw [p.mem_iff,List.mem_append,h.2 x,List.mem_append]
theorem Once.le {ks ns:List Int} (h:Once ks ns):ks.length≤ns.length:=by
 have:=List.Nodup.length_le_of_subset h.1 (fun x hx=>(h.2 x).mp hx)
 exact this
section
variable {prog:Program}{w:World}{A:Around}{R:Result→Shared→Prop}{I:Addr}{fp wr:List Addr}{G:Array GenState→Array GenState→Prop}{n:Nat}{P:Nat→Value→Prop}{St:Nat→Shared→Prop}{b:Bool}
theorem zSu (W:WalksS prog w A.in1 I fp wr G n P St) (a:Addr) (ha:a∉fp) (ns:List Int) (hl:ns.length=n) (hv:∀i v,P i v→∃z u,ns[i]?=some z∧v=.int z u) (hb:n+1 < scanBound):
  ∀(k i:Nat) (s:Shared) (ks:List Int),n-i=k→i≤n→St i s→SetR prog w s.heap a b ks→Once ks (ns.take i)→
   (∀s' ks',Moved (a::wr) G s s'→SetR prog w s'.heap a b ks'→Once ks' ns→R (.ok (.ret .none)) s')→
   codeAny (model prog w) A (.builtin "set.update.loop" ⟨[.ref a,.ref I],[]⟩) R s
 | 0,i,s,ks,hk,hi,st,S,O,q=>by
  have e:i=n:=by lia
  subst e
  refine codeAny_builtin PyProof.Rows.F.entry_set_update_loop ?_
  rw [Around.under_plainId PyProof.Rows.F.plain_set_update_loop _]
  show wpAny _ A.in1 (pyNext (.ref I) >>= _) _ _ s
  refine wpAny_bind (W.done s _ _ st fun s' m=>?_)
  show wpAny _ A.in1 (ret Value.none) _ _ s'
  have hw:a∉wr:=fun z=>ha (W.sub _ z)
  refine wpAny_pure (q s' ks (m.mono fun c hc=>zmc _ hc) (S.at_ fun o e=>m.heap a o hw e) ?_)
  rw [List.take_of_length_le (by lia)] at O
  exact O
 | k+1,i,s,ks,hk,hi,st,S,O,q=>by
  have hw:a∉wr:=fun z=>ha (W.sub _ z)
  have hlt:i < n:=by lia
  refine codeAny_builtin PyProof.Rows.F.entry_set_update_loop ?_
  rw [Around.under_plainId PyProof.Rows.F.plain_set_update_loop _]
  show wpAny _ A.in1 (pyNext (.ref I) >>= _) _ _ s
  refine wpAny_bind (W.item i s _ _ hlt st fun v s' p st' m=>?_)
  obtain ⟨z,u,hz,rfl⟩:=hv i v p
  have S':SetR prog w s'.heap a b ks:=S.at_ fun o e=>m.heap a o hw e
  show wpAny _ A.in1 (holding [Value.int z u] (setAdd a (.int z u)) >>= _) _ _ s'
  refine wpAny_bind (wpAny_holding ?_)
  unfold setAdd
  refine wpAny_holding (wpAny_bind ((intKind prog w).pyHash (k:=z) (intKind_is _ _ _ _) ?_))
  have hr:ks.length+1 < scanBound:=by
   have:=O.le
   rw [List.length_take] at this
   lia
  refine add_int (s:={ s' with toks:=s'.toks+1 }) (b:=b) S' hr fun h' ks' c sb S2 p2=>?_
  have O2:Once ks' (ns.take (i+1)):=by
   have e:ns.take (i+1)=ns.take i++[z]:=by
    rw [List.take_add_one,hz]
    rfl
   rw [e]
   exact O.step p2
  refine wpAny_pure ⟨plainId_quiet PyProof.Rows.F.plain_set_update_loop _,zSu W a ha ns hl hv hb k (i+1) _ ks' (by lia) hlt (W.frame _ s' _ _ st' (Nat.le_succ _) fun c hc o e=>?_) S2 O2 fun s2 ks2 m2 S3 O3=>?_⟩
  ·rw [sb.2 c (fun e2:c=a=>ha (by rw [←e2];exact hc))]
   exact e
  ·refine q s2 ks2 (Moved.trans W.gtrans ((m.mono fun c hc=>zmc _ hc).then_heap (Nat.le_succ _) fun c o hc e=>?_) m2) S3 O3
   rw [sb.2 c (fun e2:c=a=>hc (by rw [e2];exact List.mem_cons_self))]
   exact e
end
theorem z10 {prog:Program}{w:World}{h:Heap}{a:Addr}{b:Bool} (e:h.get? a=some { cls:=.type "set", dict:=none,data:=.set #[] 0 (.fresh 0 0 b) }):SetR prog w h a b []:=
 ⟨_,#[],0,_,e,⟨rfl,rfl,rfl⟩,rfl,fun x hx=>by simp at hx,fun x hx=>by simp at hx,rfl,List.nodup_nil,by decide,by rfl,Tb.fresh b 0 0⟩
open PySem PyProof.Rows
abbrev byT (w:World):Bool:=w.params.followText "set-order"
abbrev setO (w:World):Obj:={ cls:=.type "set", dict:=none,data:=.set #[] 0 (.fresh 0 0 (!byT w)) }
section
variable {prog:Program}{w:World}{A:Around}{E:Value→Shared→Prop}{s:Shared}
theorem z3i (v:Value) {Q:Value→Shared→Prop} (h:Q (.ref s.heap.objs.size) { s with heap:=s.heap.push (setO w) }):
  codeAny (model prog w) A (.call (.builtin "set.__new__") ⟨[.type "set", v],[]⟩) (wants Q E) s:=by
 refine codeAny_of_tree ?_
 show wpAny _ A.in1 (do checkBuiltinCall "set.__new__" ⟨[.type "set", v],[]⟩;again (.builtin "set.__new__" ⟨[.type "set", v],[]⟩)) _ _ s
 refine wpAny_bind (wpAny_of_eq (F.newCall_set_1 v) (wpAny_pure ⟨plainId_quiet F.plain_set_new _,codeAny_builtin F.entry_set_new ?_⟩))
 rw [Around.under_plainId F.plain_set_new _]
 unfold Builtin.«set.__new__» Builtin.Frozenset.newClass
 have sub:=sub_set_self
 obtain ⟨hp,g,d,tk,os⟩:=s
 dsimp only
 wp_walk
 refine wpAny_askSetting (wpAny_pure ?_)
 dsimp only
 simp only [newObj]
 exact wpAny_bind (wpAny_alloc (wpAny_pure (wpAny_pure h)))
set_option maxHeartbeats 3200000 in
theorem set_of_list {l:Addr}{items:Array Value}{ns:List Int}{Q:Value→Shared→Prop} (hh:A.handled=none) (hl:s.heap.IsList l items) (hi:IntsAre items.toList ns) (hb:items.size+1 < scanBound)
  (h:∀(h':Heap) (tk:Nat) (ks:List Int),SetR prog w h' s.heap.objs.size (!byT w) ks→Once ks ns→(∀c o,c < s.heap.objs.size→s.heap.get? c=some o→h'.get? c=some o)→Q (.ref s.heap.objs.size) { s with heap:=h',toks:=tk }):
  wpAny (model prog w) A (call (.type "set") [.ref l]) Q E s:=by
 obtain ⟨c,tl,mro⟩:=F.called_set.mro
 have made:=F.called_set.made
 have sub:=F.called_set.sub
 refine wpAny_call (codeAny_of_tree ?_)
 show wpAny _ _ (callAny (.type "set") _) _ _ _
 refine wpAny_pure ⟨Code.quiet_builtin _ (by decide +kernel),codeAny_builtin F.entry_type_call ?_⟩
 rw [Around.under_plain (weight_type_call_type "set" [.ref l] []) rfl]
 have t1:=F.called_set.notType
 have t2:=F.called_set.canCreate
 have t3:=F.typeCall_set_1 (.ref l)
 repeat (any_goals (first|assumption|wp_step))
 refine codeAny_mono (z3i (.ref l) (E:=E) (Q:=fun obj s1=>obj=.ref s.heap.objs.size∧s1={ s with heap:=s.heap.push (setO w) }) ⟨rfl,rfl⟩) fun r s1 hr=>?_
 cases r with
 | error e=>exact hr
 | ok fl=>
  cases fl with
  | ret obj=>
   obtain ⟨rfl,rfl⟩:=hr
   have hS:(s.heap.push (setO w)).get? s.heap.objs.size=some (setO w):=Heap.get?_push_size _ rfl
   have hT:Shared.TypeIs { s with heap:=s.heap.push (setO w) } (.ref s.heap.objs.size) "set" := ⟨_,hS,rfl⟩
   have i1:=F.called_set.init.lookup
   have i2:=F.called_set.init.bind (.ref s.heap.objs.size)
   repeat (any_goals (first|assumption|wp_step))
   refine codeAny_mono (codeAny_call_builtin (R:=wants (fun r s2=>r=.none∧∃h' tk ks,s2={ s with heap:=h',toks:=tk }∧SetR prog w h' s.heap.objs.size (!byT w) ks∧Once ks ns∧
    (∀c o,c < s.heap.objs.size→s.heap.get? c=some o→h'.get? c=some o)) E) F.called_set.init.plain F.entry_set_init (check_set_init_1 hT ?_)) fun r2 s2 hr2=>?_
   ·obtain ⟨ol,hol,hcl,nl,hdl⟩:=hl
    obtain ⟨oc,od,odata,osl⟩:=ol
    simp only at hcl hdl
    subst hcl
    subst hdl
    have hol':(s.heap.push (setO w)).get? l=some { cls:=.type "list", dict:=od,data:=.seq items nl,slots:=osl }:=Heap.get?_push_of_some _ hol
    have n1:=F.sub_list_set
    have n2:=F.sub_list_frozenset
    have n3:(Value.type "list" == Value.type "dict")=false:=by decide
    have hl1:(s.heap.push (setO w)).IsList l items:=⟨_,hol',rfl,nl,rfl⟩
    unfold Builtin.«set.__init__» noKeywords Builtin.Frozenset.updateFrom
    generalize hPI:pyIter=PI
    wp_walk
    subst hPI
    refine wpAny_pyIter_list hl1 (wpAny_bind (wpAny_runValue ?_))
    have hlt:l < s.heap.objs.size:=Heap.lt_size hol
    have hh3:A.in1.in1.in1.handled=none:=by simp [hh]
    have hne:l≠(s.heap.push (setO w)).objs.size:=by
     rw [Heap.size_push]
     exact Nat.ne_of_lt (Nat.lt_succ_of_lt hlt)
    have hnf:s.heap.objs.size∉[(s.heap.push (setO w)).objs.size,l]:=by
     rw [Heap.size_push]
     simp only [List.mem_cons,List.not_mem_nil,or_false,not_or]
     exact ⟨Nat.ne_of_lt (Nat.lt_succ_self _),Nat.ne_of_gt hlt⟩
    have hlen:ns.length=items.size:=by
     have:=hi.length
     rw [Array.length_toList] at this
     exact this.symm
    refine zSu (b:=!byT w) ((Walks.list hh3 _ l hne items).toS) s.heap.objs.size hnf ns hlen (fun i v hv=>?_) hb (items.size-0) 0 _ [] (by lia) (Nat.zero_le _)
     ⟨⟨_,Heap.get?_push_size _ rfl,rfl,rfl⟩,(hl1.push _)⟩ (z10 (Heap.get?_push_of_some _ hS)) Once.nil ?_
    ·obtain ⟨t,e⟩:=IntsAre.int_at hi i v (by rw [Array.getElem?_toList];exact hv)
     have hlt2:i < ns.length:=by
      rw [hlen]
      exact (Array.getElem?_eq_some_iff.mp hv).1
     refine ⟨_,t,?_,e⟩
     rw [List.getD_eq_getElem?_getD,zge hlt2]
     rfl
    ·intro s' ks' m S' O'
     obtain ⟨h',g',d',tk',os'⟩:=s'
     have e1:g'=s.gens:=m.gens
     have e2:d'=s.drawn:=m.drawn
     have e3:os'=s.os:=m.os
     subst e1
     subst e2
     subst e3
     show wpAny _ _ _ _ _ _
     refine wpAny_pure ?_
     show wpAny _ _ (ret Value.none) _ _ _
     refine wpAny_pure ⟨rfl,h',tk',ks',rfl,S',O',fun c o hc e=>m.heap c o ?_ (Heap.get?_push_of_some _ (Heap.get?_push_of_some _ e))⟩
     simp only [List.mem_cons,List.not_mem_nil,or_false,not_or]
     refine ⟨Nat.ne_of_lt hc,?_⟩
     rw [Heap.size_push]
     exact Nat.ne_of_lt (Nat.lt_succ_of_lt hc)
   ·cases r2 with
    | error e=>exact hr2
    | ok f2=>
     cases f2 with
     | ret r=>
      obtain ⟨rfl,h',tk,ks,rfl,S',O',k'⟩:=hr2
      repeat (any_goals (first|assumption|wp_step))
      exact h _ _ _ S' O' k'
     | _=>exact hr2.elim
  | _=>exact hr.elim
end
open PySem PyProof.Rows
theorem slot_next:Slot "set_iterator" "__next__" "set_iterator.__next__" :=
 .of (owner:="set_iterator") (n:="__next__") (by rw [typeLookup_type,builtinLookup_eq_fast];kernel_rfl) (by decide +kernel) (by decide +kernel) (by decide +kernel) (by first|exact .inl (by decide +kernel)|exact .inr (by decide +kernel)) (by rw [isSubtype_type];kernel_rfl)
theorem entry_next:entryFor table "set_iterator.__next__" = some Builtin.«set_iterator.__next__»:=entryFor_of_tree (by kernel_rfl)
theorem args_next (a:Value):argsOk "set_iterator.__next__" ⟨[a],[]⟩:=by unfold argsOk;kernel_rfl
theorem zQK:entryFor table "set.__iter__" = some Builtin.«frozenset.__iter__»:=entryFor_alias (id':="frozenset.__iter__") (by kernel_rfl) rfl (by decide +kernel) (by kernel_rfl)
theorem zW0 {α:Type}:∀{l:List α}{i:Nat} (h:i < l.length),(l[i]::l.eraseIdx i).Perm l
 | [],i,h=>absurd h (by simp)
 | x::l,0,h=>List.Perm.refl _
 | x::l,i+1,h=>by
  have hl:i < l.length:=Nat.lt_of_succ_lt_succ h
  show (l[i]::x::l.eraseIdx i).Perm (x::l)
  exact (List.Perm.swap x _ _).trans (List.Perm.cons x (zW0 hl))
section
variable {prog:Program}{w:World}{A:Around}{E:Value→Shared→Prop}{s:Shared}
theorem z1w {src:Source}{n:Nat}{Q:Nat→Shared→Prop} (hn:0 < n) (h:∀i d,i < n→Q i { s with drawn:=d }):wpAny (model prog w) A (choose src n) Q E s:=
 fun _ _ _=>⟨by lia,h _ _ (Nat.mod_lt _ hn)⟩
theorem z0w {α:Type}:∀(n:Nat) (xs:List α) (s:Shared) (Q:List α→Shared→Prop),n=xs.length→(∀ys d,ys.Perm xs→Q ys { s with drawn:=d })→wpAny (model prog w) A (drawOrder n xs) Q E s
 | 0,xs,s,Q,hn,h=>by
  have e:xs=[]:=List.length_eq_zero_iff.mp hn.symm
  subst e
  exact wpAny_pure (h [] s.drawn (List.Perm.refl _))
 | n+1,[],s,Q,hn,h=>by cases hn
 | n+1,x::xs,s,Q,hn,h=>by
  unfold drawOrder
  refine wpAny_bind (z1w (by simp) fun i d hi=>?_)
  have e:(x::xs)[i]?=some ((x::xs)[i]):=zge hi
  rw [e]
  dsimp only
  refine wpAny_bind (z0w n _ _ _ (by rw [List.length_eraseIdx_of_lt hi,←hn];rfl) fun ys d2 p=>?_)
  refine wpAny_pure (h _ _ ?_)
  exact (List.Perm.cons _ p).trans (zW0 hi)
end
theorem z1r {α:Type} (f:Nat→Nat):∀(n k:Nat) (l:List α) (out:Array α),n=l.length→(pickOrder.go f n k l out).toList.Perm (out.toList++l)
 | 0,k,l,out,h=>by
  have e:l=[]:=List.length_eq_zero_iff.mp h.symm
  subst e
  unfold pickOrder.go
  rw [List.append_nil]
 | n+1,k,l,out,h=>by
  unfold pickOrder.go
  have hl:f k % l.length < l.length:=Nat.mod_lt _ (by lia)
  rw [zge hl]
  dsimp only
  refine (z1r f n (k+1) _ _ (by rw [List.length_eraseIdx_of_lt hl,←h];rfl)).trans ?_
  rw [Array.toList_push,zaa]
  exact List.Perm.append_left _ (zW0 hl)
theorem z0K {α:Type} (f:Nat→Nat) (xs:Array α):(pickOrder f xs).toList.Perm xs.toList:=by
 unfold pickOrder
 have:=z1r f xs.size 0 xs.toList #[] (by rw [Array.length_toList])
 simpa using this
abbrev itO (first:Value) (i:Nat) (a:Addr) (n ep:Nat):Obj:={ cls:=.type "set_iterator", data:=.fields #[first,rawInt i,.ref a,rawInt n,rawInt ep] }
inductive zWj (w:World) (h:Heap) (es:Array (Int×Value)) (ep:Nat) (a:Addr) (t:SetTable):Array (Int×Value)→Nat→Value→Prop
 | text {i:Nat}:byT w=true→zWj w h es ep a t (pickOrder (w.params.setOrder a ep) es) i (rawInt 0)
 | draw {i:Nat}{T:Addr}{o:Obj}{vs:Array Value}{c:Nat}{ps:List Nat}:h.get? T=some o→o.data=.seq vs c→vs.toList=ps.map (fun (p:Nat)=>rawInt (p:Int))→ps.Perm (List.range es.size)→zWj w h es ep a t (ps.toArray.map fun p=>es.getD p (0,.none)) i (.ref T)
 | slot {i j:Nat}:byT w=false→¬(!t.plain && es.size > 1)=true→(∀k,k < i→t.place.getD k 0 < j)→(∀k,i≤k→k < es.size→j≤t.place.getD k 0)→zWj w h es ep a t es i (rawInt j)
theorem zWj.stay {w:World}{h h':Heap}{es:Array (Int×Value)}{ep:Nat}{a:Addr}{t:SetTable}{L:Array (Int×Value)}{i:Nat}{v:Value} (x:zWj w h es ep a t L i v) (k:∀T,v=.ref T→∀o,h.get? T=some o→h'.get? T=some o):zWj w h' es ep a t L i v:=by
 cases x with
 | text hb=>exact .text hb
 | draw h1 h2 h3 h4=>exact .draw (k _ rfl _ h1) h2 h3 h4
 | slot h1 h2 h3 h4=>exact .slot h1 h2 h3 h4
theorem zWj.perm {w:World}{h:Heap}{es:Array (Int×Value)}{ep:Nat}{a:Addr}{t:SetTable}{L:Array (Int×Value)}{i:Nat}{v:Value} (x:zWj w h es ep a t L i v):L.toList.Perm es.toList:=by
 cases x with
 | text hb=>exact z0K _ _
 | draw h1 h2 h3 h4=>
  rw [Array.toList_map]
  refine (h4.map _).trans ?_
  rw [←Array.toList_range,←Array.toList_map]
  have e:(Array.range es.size).map (fun p=>es.getD p (0,Value.none))=es:=by
   refine Array.ext (by simp) fun k h1 h2=>?_
   rw [Array.getElem_map,Array.getElem_range]
   unfold Array.getD
   rw [dif_pos h2]
   rfl
  rw [e]
 | slot h1 h2 h3 h4=>exact List.Perm.refl _
section
variable {prog:Program}{w:World}{A:Around}{E:Value→Shared→Prop}{s:Shared}{it a:Addr}{o:Obj}{es L:Array (Int×Value)}{ep i:Nat}{t:SetTable}{first:Value}
theorem zWC {Q:Bool→Shared→Prop} (h:Q (byT w) s):wpAny (model prog w) A setsByText Q E s:=by
 unfold setsByText
 exact wpAny_bind (wpAny_askSetting (wpAny_pure h))
theorem z0j {Q:Array (Int×Value)→Shared→Prop} (hb:byT w=true) (ho:s.heap.get? a=some o) (hd:o.data=.set es ep t) (hf:t.fits es.size=true) (h:Q (pickOrder (w.params.setOrder a ep) es) s):wpAny (model prog w) A (setWalk a) Q E s:=by
 unfold setWalk
 refine wpAny_bind (wpAny_setState_of ho hd hf ?_)
 dsimp only
 refine wpAny_bind (zWC ?_)
 rw [hb,if_pos rfl]
 exact wpAny_bind (wpAny_askSetting (wpAny_pure h))
theorem zT9 {z g:Nat}{Q:Option (Value×Nat)→Shared→Prop} (hb:byT w=true) (ho:s.heap.get? a=some o) (hd:o.data=.set es ep t) (hf:t.fits es.size=true) (h:Q (((pickOrder (w.params.setOrder a ep) es)[g]?).map fun e=>(e.2,z)) s):wpAny (model prog w) A (setNext a z g ep) Q E s:=by
 unfold setNext
 refine wpAny_bind (wpAny_setState_of ho hd hf ?_)
 dsimp only
 refine wpAny_bind (zWC ?_)
 rw [hb,if_pos rfl,if_neg (by simp)]
 exact wpAny_bind (z0j hb ho hd hf (wpAny_pure h))
theorem zSR {z g:Nat}{Q:Option (Value×Nat)→Shared→Prop} (hb:byT w=false) (hT:Tb (!byT w) t) (hp:¬(!t.plain && es.size > 1)=true) (ho:s.heap.get? a=some o) (hd:o.data=.set es ep t) (hf:t.fits es.size=true)
  (h:Q (match es[SetTable.below t.place z]?,t.place[SetTable.below t.place z]? with|some (_,x),some j=>some (x,j+1)|_,_=>none) s):wpAny (model prog w) A (setNext a z g ep) Q E s:=by
 have hl:t.led=true:=by rw [hT.led,hb];rfl
 unfold setNext
 refine wpAny_bind (wpAny_setState_of ho hd hf ?_)
 dsimp only
 refine wpAny_bind (zWC ?_)
 rw [hb,if_neg (by decide)]
 show wpAny _ _ (if (!t.plain && decide (es.size > 1))=true then _ else _) _ _ _
 rw [if_neg hp]
 refine wpAny_bind ?_
 show wpAny _ _ (if (!t.led && !es.isEmpty)=true then _ else _) _ _ _
 rw [hl,if_neg (by simp)]
 exact wpAny_pure (wpAny_pure h)
theorem next_item {x:Int×Value}{Q:Option Value→Shared→Prop} (hit:s.heap.get? it=some (itO first i a es.size ep)) (ho:s.heap.get? a=some o) (hd:o.data=.set es ep t) (hf:t.fits es.size=true) (hT:Tb (!byT w) t)
  (F:zWj w s.heap es ep a t L i first) (hnT:first≠.ref it) (hx:L[i]?=some x)
  (h:∀f' h',Heap.SameBut it s.heap h'→h'.get? it=some (itO f' (i+1) a es.size ep)→(f'=first∨∃z,f'=rawInt z)→zWj w h' es ep a t L (i+1) f'→Q (some x.2) { s with heap:=h' }):wpAny (model prog w) A (pyNext (.ref it)) Q E s:=by
 have ty:s.TypeIs (.ref it) "set_iterator" := ⟨_,hit,rfl⟩
 have psz:t.place.size=es.size:=by
  unfold SetTable.fits at hf
  simp only [zbt,beq_iff_eq] at hf
  exact hf.1
 unfold pyNext
 refine wpAny_bind (wpAny_attempt (wpAny_callSpecial?_slot (name:=Str.ofString "__next__") ty slot_next (wpAny_call_entry slot_next ty entry_next ?_ (args_next _))))
 show wpAny _ _ (fieldsOf (.ref it) >>= _) _ _ s
 refine wpAny_bind (wpAny_fieldsOf hit rfl ?_)
 show wpAny _ _ (setEntries a >>= _) _ _ s
 refine wpAny_bind (wpAny_setEntries_of ho hd hf ?_)
 rw [if_neg (by simp)]
 have two:∀(z:Int) (R:Value→Shared→Prop),(∀h',Heap.SameBut it s.heap h'→h'.get? it=some (itO (rawInt z) (i+1) a es.size ep)→R x.2 { s with heap:=h' })→
   wpAny (model prog w) A.in1 (do setField (.ref it) 0 (rawInt z);setField (.ref it) 1 (rawInt ((i:Int)+1));ret x.2) (fun f s'=>∃v,f=.done (.ret v)∧R v s') (fun _ _=>False) s:=fun z R k=>by
  refine wpAny_bind (wpAny_setField_rec (prog:=prog) (w:=w) hit (by simp) fun h1 e1 b1=>?_)
  refine wpAny_bind (wpAny_setField_rec (prog:=prog) (w:=w) (s:={ s with heap:=h1 }) e1 (by simp) fun h2 e2 b2=>?_)
  exact wpAny_pure ⟨_,rfl,k h2 (b1.trans b2) e2⟩
 cases F with
 | text hb=>
  show wpAny _ _ (setNext a 0 i ep >>= _) _ _ s
  refine wpAny_bind (zT9 hb ho hd hf ?_)
  rw [hx]
  refine wpAny_mono (two 0 _ fun h' sb e=>?_) (fun _ _ q=>q) fun _ _ q=>q.elim
  exact wpAny_pure (h _ h' sb e (.inl rfl) (.text hb))
 | @draw _ T oT vs c ps h1 h2 h3 h4=>
  have hi:i < ps.length:=by
   have:=(Array.getElem?_eq_some_iff.mp hx).1
   simpa using this
  have hpl:ps[i] < es.size:=List.mem_range.mp (h4.mem_iff.mp (List.getElem_mem hi))
  have hv:vs[i]?=some (rawInt (ps[i]:Int)):=by
   rw [←Array.getElem?_toList,h3,zgm,zge hi]
   rfl
  have hxe:es[ps[i]]?=some x:=by
   rw [Array.getElem?_map,List.getElem?_toArray,zge hi] at hx
   have e:=zsi hx
   rw [←e]
   show es[ps[i]]?=some (es.getD ps[i] (0,Value.none))
   unfold Array.getD
   rw [dif_pos hpl,Array.getElem?_eq_getElem hpl]
   rfl
  show wpAny _ _ (seqItems? (.ref T) >>= _) _ _ s
  refine wpAny_bind (wpAny_seqItems h1 h2 ?_)
  dsimp only
  rw [show ((i:Int)).toNat=i from rfl,hv]
  show wpAny _ _ (setNextDrawn a ps[i] ep >>= _) _ _ s
  refine wpAny_bind ?_
  unfold setNextDrawn
  refine wpAny_bind (wpAny_setState_of ho hd hf ?_)
  dsimp only
  rw [if_neg (by simp),hxe]
  refine wpAny_pure ?_
  show wpAny _ _ (setField (.ref it) 1 (rawInt ((i:Int)+1)) >>= _) _ _ s
  refine wpAny_bind (wpAny_setField_rec (prog:=prog) (w:=w) hit (by simp) fun h1' e1 b1=>?_)
  refine wpAny_pure ⟨_,rfl,wpAny_pure (h _ h1' b1 e1 (.inl rfl) (.draw ?_ h2 h3 h4))⟩
  rw [b1.2 T fun z=>hnT (by rw [z])]
  exact h1
 | @slot _ j h1 h2 h3 h4=>
  have C:=zUH (j:=j) hT.rise
  have hi:i < es.size:=(Array.getElem?_eq_some_iff.mp hx).1
  have hbl:SetTable.below t.place j=i:=by
   rcases Nat.lt_trichotomy (SetTable.below t.place j) i with q|q|q
   ·have y1:=h3 _ q
    have y2:=C.hi _ (Nat.le_refl _) (by lia)
    lia
   ·exact q
   ·have y1:=C.lo i q
    have y2:=h4 i (Nat.le_refl _) hi
    lia
  have hip:i < t.place.size:=by lia
  show wpAny _ _ (setNext a j i ep >>= _) _ _ s
  refine wpAny_bind (zSR h1 hT h2 ho hd hf ?_)
  rw [hbl,hx,Array.getElem?_eq_getElem hip]
  refine wpAny_mono (two ((t.place[i]+1:Nat):Int) _ fun h' sb e=>?_) (fun _ _ q=>q) fun _ _ q=>q.elim
  refine wpAny_pure (h _ h' sb e (.inr ⟨_,rfl⟩) (.slot h1 h2 (fun k hk=>?_) fun k hk1 hk2=>?_))
  ·rcases Nat.lt_or_ge k i with q|q
   ·have:=hT.rise k i q hip
    rw [zU1 hip] at this
    lia
   ·rw [show k=i by lia,zU1 hip]
    exact Nat.lt_succ_self _
  ·have:=hT.rise i k (by lia) (by lia)
   rw [zU1 hip] at this
   lia
end
open PySem PyProof.Rows
section
variable {prog:Program}{w:World}{A:Around}{E:Value→Shared→Prop}{s:Shared}{it a:Addr}{o:Obj}{es L:Array (Int×Value)}{ep i:Nat}{t:SetTable}{first:Value}
theorem zRj {α:Type}{Q:α→Shared→Prop} (hh:A.handled=none) (h:∀(e:Addr) (h':Heap),(∀b ob,s.heap.get? b=some ob→h'.get? b=some ob)→(∃oe,h'.get? e=some oe∧oe.cls=.type "StopIteration")→E (.ref e) { s with heap:=h' }):
  wpAny (model prog w) A (do let e ←newExc (.type "StopIteration") [];raiseNew e) Q E s:=by
 refine wpAny_bind ?_
 simp only [newExc,newTuple]
 refine wpAny_bind (wpAny_newObj_type ?_ (by size_fits))
 refine wpAny_bind (m:=firstArgMember _ _) (wpAny_of_eq (a:=Value.none) (by first|rfl|(simp only [firstArgMember];rfl)) ?_)
 refine wpAny_newObj_type ?_ (by size_fits)
 simp only [raiseNew]
 refine wpAny_bind (wpAny_handled ?_)
 rw [hh]
 exact wpAny_bind (wpAny_pure (wpAny_throw (h _ _ (fun b ob e=>Heap.get?_push_of_some _ (Heap.get?_push_of_some _ e)) ⟨_,Heap.get?_push_size _ rfl,rfl⟩)))
theorem next_end {Q:Option Value→Shared→Prop} (hh:A.handled=none) (hit:s.heap.get? it=some (itO first i a es.size ep)) (ho:s.heap.get? a=some o) (hd:o.data=.set es ep t) (hf:t.fits es.size=true) (hT:Tb (!byT w) t)
  (F:zWj w s.heap es ep a t L i first) (hi:i=es.size) (h:∀h',(∀b ob,b≠it→s.heap.get? b=some ob→h'.get? b=some ob)→Q none { s with heap:=h' }):wpAny (model prog w) A (pyNext (.ref it)) Q E s:=by
 have ty:s.TypeIs (.ref it) "set_iterator" := ⟨_,hit,rfl⟩
 have hL:L.size=es.size:=by
  have:=F.perm.length_eq
  rw [Array.length_toList,Array.length_toList] at this
  exact this
 unfold pyNext
 refine wpAny_bind (wpAny_attempt (wpAny_callSpecial?_slot (name:=Str.ofString "__next__") ty slot_next (wpAny_call_entry slot_next ty entry_next ?_ (args_next _))))
 show wpAny _ _ (fieldsOf (.ref it) >>= _) _ _ s
 refine wpAny_bind (wpAny_fieldsOf hit rfl ?_)
 show wpAny _ _ (setEntries a >>= _) _ _ s
 refine wpAny_bind (wpAny_setEntries_of ho hd hf ?_)
 rw [if_neg (by simp)]
 have fin:∀(h1:Heap),(∀b ob,b≠it→s.heap.get? b=some ob→h1.get? b=some ob)→∀(e:Addr) (h':Heap),(∀b ob,h1.get? b=some ob→h'.get? b=some ob)→(∃oe,h'.get? e=some oe∧oe.cls=.type "StopIteration")→
   wpAny (model prog w) A (do if ←isInstance (.ref e) (.type "StopIteration") then pure none else throw (.ref e)) Q E { s with heap:=h' }:=fun h1 k1 e h' k2 ⟨oe,q1,q2⟩=>
  wpAny_bind (wpAny_isInstance (T:="StopIteration") (b:=true) ⟨oe,q1,q2⟩ isSubtype_stop (wpAny_pure (h h' fun b ob hb q=>k2 b ob (k1 b ob hb q))))
 have hx:L[i]?=none:=Array.getElem?_eq_none (by lia)
 cases F with
 | text hb=>
  show wpAny _ _ (setNext a 0 i ep >>= _) _ _ s
  refine wpAny_bind (zT9 hb ho hd hf ?_)
  rw [hx]
  show wpAny _ _ (setField (.ref it) 2 Value.none >>= _) _ _ s
  refine wpAny_bind (wpAny_setField_rec (prog:=prog) (w:=w) hit (by simp) fun h1 e1 b1=>?_)
  exact zRj (s:={ s with heap:=h1 }) hh fun e h' k q=>fin h1 (fun b ob hb z=>by rw [b1.2 b hb];exact z) e h' k q
 | @draw _ T oT vs c ps h1 h2 h3 h4=>
  have hv:vs[i]?=none:=by
   rw [←Array.getElem?_toList,h3,zgm,List.getElem?_eq_none (by rw [h4.length_eq,List.length_range];lia)]
   rfl
  show wpAny _ _ (seqItems? (.ref T) >>= _) _ _ s
  refine wpAny_bind (wpAny_seqItems h1 h2 ?_)
  dsimp only
  rw [show ((i:Int)).toNat=i from rfl,hv]
  show wpAny _ _ (setField (.ref it) 0 (rawInt 0) >>= _) _ _ s
  refine wpAny_bind (wpAny_setField_rec (prog:=prog) (w:=w) hit (by simp) fun g1 e1 b1=>?_)
  show wpAny _ _ (setField (.ref it) 2 Value.none >>= _) _ _ _
  refine wpAny_bind (wpAny_setField_rec (prog:=prog) (w:=w) (s:={ s with heap:=g1 }) e1 (by simp) fun g2 e2 b2=>?_)
  exact zRj (s:={ s with heap:=g2 }) hh fun e h' k q=>fin g2 (fun b ob hb z=>by rw [b2.2 b hb,b1.2 b hb];exact z) e h' k q
 | @slot _ j h1 h2 h3 h4=>
  have psz:t.place.size=es.size:=by
   unfold SetTable.fits at hf
   simp only [zbt,beq_iff_eq] at hf
   exact hf.1
  have C:=zUH (j:=j) hT.rise
  have hbl:SetTable.below t.place j=es.size:=by
   rcases Nat.lt_or_ge (SetTable.below t.place j) es.size with q|q
   ·have y1:=h3 _ (by rw [hi];exact q)
    have y2:=C.hi _ (Nat.le_refl _) (by lia)
    lia
   ·have:=C.le
    lia
  show wpAny _ _ (setNext a j i ep >>= _) _ _ s
  refine wpAny_bind (zSR h1 hT h2 ho hd hf ?_)
  rw [hbl,Array.getElem?_eq_none (Nat.le_refl _)]
  show wpAny _ _ (setField (.ref it) 2 Value.none >>= _) _ _ s
  refine wpAny_bind (wpAny_setField_rec (prog:=prog) (w:=w) hit (by simp) fun g1 e1 b1=>?_)
  exact zRj (s:={ s with heap:=g1 }) hh fun e h' k q=>fin g1 (fun b ob hb z=>by rw [b1.2 b hb];exact z) e h' k q
end
open PySem PyProof.Rows
theorem slot_self:Slot "set_iterator" "__iter__" "set_iterator.__iter__" :=
 .of (owner:="set_iterator") (n:="__iter__") (by rw [typeLookup_type,builtinLookup_eq_fast];kernel_rfl) (by decide +kernel) (by decide +kernel) (by decide +kernel) (by first|exact .inl (by decide +kernel)|exact .inr (by decide +kernel)) (by rw [isSubtype_type];kernel_rfl)
theorem entry_self:entryFor table "set_iterator.__iter__" = some Builtin.«dict_keyiterator.__iter__»:=entryFor_alias (id':="dict_keyiterator.__iter__") (by kernel_rfl) rfl (by decide +kernel) (by kernel_rfl)
theorem args_self (a:Value):argsOk "set_iterator.__iter__" ⟨[a],[]⟩:=by unfold argsOk;kernel_rfl
section
variable {prog:Program}{w:World}{A:Around}{E:Value→Shared→Prop}{s:Shared}{it a:Addr}{o:Obj}{es L:Array (Int×Value)}{ep i:Nat}{t:SetTable}{first:Value}
theorem z05 {Q:Value→Shared→Prop} (hit:s.heap.get? it=some (itO first i a es.size ep)) (h:Q (.ref it) s):wpAny (model prog w) A (pyIter (.ref it)) Q E s:=by
 have ty:s.TypeIs (.ref it) "set_iterator" := ⟨_,hit,rfl⟩
 refine wpAny_pyIter_slot ty slot_self (wpAny_call_entry slot_self ty entry_self ?_ (args_self _))
 exact wpAny_pure ⟨_,rfl,"set_iterator", _,ty,slot_next.lookup,h⟩
theorem z2C {Q:Value→Shared→Prop} (hx:o.ExactSet) (ho:s.heap.get? a=some o) (hd:o.data=.set es ep t) (hf:t.fits es.size=true) (hb:es.size < scanBound)
  (h:∀(it:Addr) (f:Value) (L:Array (Int×Value)) (h':Heap) (d:Drawn),(∀b ob,s.heap.get? b=some ob→h'.get? b=some ob)→s.heap.objs.size≤it→h'.get? it=some (itO f 0 a es.size ep)→(∀T,f=.ref T→s.heap.objs.size≤T∧T≠it)→
   zWj w h' es ep a t L 0 f→Q (.ref it) { s with heap:=h',drawn:=d }):wpAny (model prog w) A (pyIter (.ref a)) Q E s:=by
 have ty:s.TypeIs (.ref a) "set" := ⟨o,ho,hx.1⟩
 refine wpAny_pyIter_slot ty F.slot_set_iter (wpAny_call_entry F.slot_set_iter ty zQK ?_ (F.args_set_iter_1 _))
 show wpAny _ _ (Builtin.Frozenset.sizeOf a >>= _) _ _ s
 unfold Builtin.Frozenset.sizeOf
 refine wpAny_bind (wpAny_bind (wpAny_setEntries_of ho hd hf (wpAny_pure ?_)))
 refine wpAny_bind ?_
 unfold setDrawn
 refine wpAny_bind (wpAny_setState_of ho hd hf ?_)
 dsimp only
 refine wpAny_bind (zWC (wpAny_pure ?_))
 have ending:∀(f:Value) (g:Heap) (dr:Drawn),(∀b ob,s.heap.get? b=some ob→g.get? b=some ob)→s.heap.objs.size≤g.objs.size→(∀T,f=.ref T→s.heap.objs.size≤T∧T < g.objs.size)→(∀h',(∀b ob,g.get? b=some ob→h'.get? b=some ob)→∃L,zWj w h' es ep a t L 0 f)→
   wpAny (model prog w) A.in1 (do ret (←newFields "set_iterator" [f,rawInt 0,.ref a,rawInt es.size,rawInt (←setEpoch a)])) (fun fin s'=>∃v,fin=.done (.ret v)∧∃T' r,s'.TypeIs v T'∧typeLookup (.type T') (Str.ofString "__next__")=pure (some r)∧Q v s') E { s with heap:=g,drawn:=dr }:=by
  intro f g dr k1 k2 k3 k4
  refine wpAny_bind (wpAny_setEpoch_of (s:={ s with heap:=g,drawn:=dr }) (k1 _ _ ho) hd hf ?_)
  refine wpAny_bind (m:=newFields _ _) (wpAny_newObj_type ?_ (by size_fits))
  obtain ⟨L,hL⟩:=k4 _ fun b ob e=>Heap.get?_push_of_some (itO f 0 a es.size ep) e
  refine wpAny_pure ⟨_,rfl,"set_iterator", _,⟨_,Heap.get?_push_size _ rfl,rfl⟩,slot_next.lookup,?_⟩
  exact h g.objs.size f L _ dr (fun b ob e=>Heap.get?_push_of_some _ (k1 b ob e)) k2 (Heap.get?_push_size _ rfl) (fun T e=>⟨(k3 T e).1,Nat.ne_of_lt (k3 T e).2⟩) hL
 by_cases q:(!byT w && (!t.plain && decide (es.size > 1)))=true
 ·refine (if_pos q).symm ▸ ?_
  refine wpAny_bind (z0w es.size (List.range es.size) s _ (by rw [List.length_range]) fun ys d p=>?_)
  have len:ys.length=es.size:=by rw [p.length_eq,List.length_range]
  refine wpAny_bind (wpAny_newTuple ?_ (by rw [zlm,len];exact fits_of_scanBound hb))
  refine ending (.ref s.heap.objs.size) _ d (fun b ob e=>Heap.get?_push_of_some _ e) (by rw [Heap.size_push];exact Nat.le_succ _) (fun T e=>?_) fun h' k=>⟨_,.draw (k _ _ (Heap.get?_push_size _ rfl)) rfl (by simp) p⟩
  cases e
  exact ⟨Nat.le_refl _,by rw [Heap.size_push];exact Nat.lt_succ_self _⟩
 ·refine (if_neg q).symm ▸ ?_
  refine wpAny_bind (wpAny_pure ?_)
  refine ending (rawInt 0) s.heap s.drawn (fun _ _ e=>e) (Nat.le_refl _) (fun T e=>by cases e) fun h' _=>?_
  cases hb2:byT w with
  | true=>exact ⟨_,.text hb2⟩
  | false=>
   rw [hb2] at q
   exact ⟨es,.slot hb2 (fun z=>q (by simpa using z)) (fun k hk=>absurd hk (Nat.not_lt_zero _)) fun k _ _=>Nat.zero_le _⟩
end
section
variable {prog:Program}{w:World}{A:Around}{a it T:Addr}{o:Obj}{es L:Array (Int×Value)}{ep:Nat}{t:SetTable}
def z5z (w:World) (it a T:Addr) (o:Obj) (es L:Array (Int×Value)) (ep:Nat) (t:SetTable) (i:Nat) (h:Heap):Prop:=∃f,h.get? it=some (itO f i a es.size ep)∧h.get? a=some o∧(∀x,f=.ref x→x=T)∧zWj w h es ep a t L i f
theorem z0g (hh:A.handled=none) (hd:o.data=.set es ep t) (hf:t.fits es.size=true) (hT:Tb (!byT w) t) (na:a≠it) (nT:T≠it) (hL:L.size=es.size):
  Walks prog w A it [it,a,T] [it] es.size (fun i v=>∃e,L[i]?=some e∧v=e.2) (z5z w it a T o es L ep t) where
 sub:=fun b hb=>by
  rw [List.mem_singleton.mp hb]
  exact List.mem_cons_self
 frame:=fun i h h' ⟨f,h1,h2,h3,h4⟩ k=>⟨f,k it (by simp) _ h1,k a (by simp) _ h2,h3,h4.stay fun x e ob q=>k x (by rw [h3 x e];simp) ob q⟩
 item:=fun i s Q E hi ⟨f,h1,h2,h3,h4⟩ q=>by
  have hx:L[i]?=some L[i]:=Array.getElem?_eq_getElem (by lia)
  refine next_item h1 h2 hd hf hT h4 (fun e=>nT (h3 it e).symm) hx fun f' h' sb e1 e2 e3=>?_
  refine q _ h' s.toks ⟨_,hx,rfl⟩ ⟨f',e1,by rw [sb.2 a na];exact h2,fun x e=>?_,e3⟩ fun b ob hb z=>by rw [sb.2 b fun e=>hb (by rw [e];exact List.mem_singleton.mpr rfl)];exact z
  rcases e2 with r|⟨z,r⟩
  ·exact h3 x (by rw [←r];exact e)
  ·rw [r] at e
   cases e
 done:=fun s Q E ⟨f,h1,h2,h3,h4⟩ q=>next_end hh h1 h2 hd hf hT h4 rfl fun h' k=>q h' s.toks fun b ob hb z=>k b ob (fun e=>hb (by rw [e];exact List.mem_singleton.mpr rfl)) z
 self:=fun i s Q E ⟨f,h1,_⟩ q=>z05 h1 q
end
open PySem PyProof.Rows
section
variable {prog:Program}{w:World}{A:Around}{E:Value→Shared→Prop}{s:Shared}{a:Addr}{ks:List Int}
theorem z2n {o:Obj}{Q:Bool→Shared→Prop} (ho:s.heap.get? a=some o) (hx:o.ExactSet) (h:Q false s):wpAny (model prog w) A (Builtin.List.listLengthHint (.ref a)) Q E s:=by
 have ty:s.TypeIs (.ref a) "set" := ⟨o,ho,hx.1⟩
 unfold Builtin.List.listLengthHint
 refine wpAny_bind (wpAny_specialOf ty F.slot_set_len.lookup ?_)
 generalize hid:("set.__len__" : String)=id0
 wp_delta
 rw [show splitId id0=some ("set", "__len__") from by subst hid;decide +kernel]
 subst hid
 refine wpAny_bind (wpAny_isInstance (T:="set") (b:=true) ty (by rw [isSubtype_type];kernel_rfl) ?_)
 refine wpAny_ite_split (fun z=>absurd z (by decide)) (fun _=>?_)
 refine wpAny_ite_split (fun _=>?_) (fun z=>absurd (by decide +kernel) z)
 exact wpAny_bind (wpAny_typeOf (T:="set") ty (wpAny_pure h))
theorem keys_perm {L es:Array (Int×Value)} (p:L.toList.Perm es.toList):(keys L).Perm (keys es):=p.map _
theorem zVa:∀{l:List (Int×Value)},(∀e∈l,∃n u,e.2=Value.int n u)→IntsAre (l.map fun e=>e.2) (l.map fun e=>nm e.2)
 | [],_=>.nil
 | e::l,h=>by
  obtain ⟨n,u,q⟩:=h e List.mem_cons_self
  show IntsAre (e.2::_) (nm e.2::_)
  rw [q]
  exact .cons n u (zVa fun x hx=>h x (zmc _ hx))
set_option maxHeartbeats 1000000 in
theorem zRA {Q:List Value→Shared→Prop} (hh:A.handled=none) (S:SetR prog w s.heap a (!byT w) ks)
  (h:∀(vs:List Value) (ns:List Int) (h':Heap) (tk:Nat) (d:Drawn),IntsAre vs ns→ns.Perm ks→(∀b ob,s.heap.get? b=some ob→h'.get? b=some ob)→s.heap.objs.size≤h'.objs.size→Q vs { s with heap:=h',toks:=tk,drawn:=d }):wpAny (model prog w) A (collect (.ref a)) Q E s:=by
 obtain ⟨o,es,ep,t,ho,hx,hd,el,hi,hk,hn,hb,hf,hT⟩:=S
 have la:a < s.heap.objs.size:=Heap.lt_size ho
 unfold collect
 refine wpAny_bind (wpAny_runValue (codeAny_builtin F.entry_proto_collect ?_))
 rw [Around.under_plainId F.plain_proto_collect _]
 show wpAny _ A.in1 (newList [] >>= fun l=>again (.builtin "list.__iadd__" ⟨[l,.ref a],[]⟩)) _ _ s
 refine wpAny_bind (wpAny_newObj_type ?_)
 refine wpAny_pure ⟨plainId_quiet F.plain_list_iadd _,codeAny_builtin F.entry_list_iadd ?_⟩
 rw [Around.under_plainId F.plain_list_iadd _]
 generalize hD:s.heap.objs.size=D
 have hS1:(s.heap.push { cls:=.type "list", data:=.seq ([]:List Value).toArray }).get? D=some { cls:=.type "list", data:=.seq ([]:List Value).toArray }:=by
  rw [←hD]
  exact Heap.get?_push_size _ rfl
 have ho1:(s.heap.push { cls:=.type "list", data:=.seq ([]:List Value).toArray }).get? a=some o:=Heap.get?_push_of_some _ ho
 have hz1:(s.heap.push { cls:=.type "list", data:=.seq ([]:List Value).toArray }).objs.size=D+1:=by rw [Heap.size_push,hD]
 have hk1:∀b ob,s.heap.get? b=some ob→(s.heap.push { cls:=.type "list", data:=.seq ([]:List Value).toArray }).get? b=some ob:=fun b ob e=>Heap.get?_push_of_some _ e
 generalize (s.heap.push { cls:=.type "list", data:=.seq ([]:List Value).toArray })=g1 at hS1 ho1 hz1 hk1
 have la2:@LT.lt Nat instLTNat a D:=by
  rw [←hD]
  exact la
 have hDa:D≠a:=Nat.ne_of_gt la2
 show wpAny _ A.in1 (Builtin.List.listExtendWith (.ref D) (.ref a) (.ref D)) _ _ { s with heap:=g1 }
 unfold Builtin.List.listExtendWith
 refine wpAny_bind (wpAny_typeOf (T:="set") ⟨o,ho1,hx.1⟩ ?_)
 have n1:Builtin.List.listSameRef (.ref D) (.ref a)=false:=by simp [Builtin.List.listSameRef,hDa]
 have n2:(Value.type "set" == Value.type "list")=false:=by decide
 have n3:(Value.type "set" == Value.type "tuple")=false:=by decide
 simp only [n1,n2,n3,Bool.or_false,Bool.false_eq_true,if_false]
 refine wpAny_bind (z2C (s:={ s with heap:=g1 }) hx ho1 hd hf hb fun it f L g2 d k2 l2 e2 t2 F2=>?_)
 refine wpAny_bind (wpAny_holding (z2n (s:={ s with heap:=g2,drawn:=d }) (k2 _ _ ho1) hx ?_))
 refine wpAny_ite_split (fun _=>?_) (fun z=>absurd (by decide +kernel) z)
 refine wpAny_bind (wpAny_rule ?_)
 have hS2:=k2 _ _ hS1
 refine wpAny_bind ?_
 show wpAny _ A.in1 (updateSeq D (·.push .none) >>= fun _=>updateSeq D (·.pop)) _ _ _
 refine wpAny_bind (wpAny_updateSeq (s:={ s with heap:=g2,drawn:=d }) hS2 rfl ?_)
 have hS3:=Heap.get?_update_self (Obj.mapSeq (·.push Value.none)) hS2 rfl
 refine wpAny_updateSeq hS3 rfl ?_
 have hS4:=Heap.get?_update_self (Obj.mapSeq (·.pop)) hS3 rfl
 have oth:∀b ob,b≠D→g2.get? b=some ob→((g2.update D (Obj.mapSeq (·.push Value.none))).update D (Obj.mapSeq (·.pop))).get? b=some ob:=fun b ob hb e=>(Heap.get?_update_other _ _ (Ne.symm hb)).trans ((Heap.get?_update_other _ _ (Ne.symm hb)).trans e)
 have li:@LE.le Nat instLENat (D+1) it:=by
  rw [←hz1]
  exact l2
 have nDi:D≠it:=Nat.ne_of_lt (Nat.lt_of_succ_le li)
 have nai:a≠it:=Nat.ne_of_lt (Nat.lt_trans la2 (Nat.lt_of_succ_le li))
 obtain ⟨T,hTt,nT,lT⟩:∃T,(∀x,f=.ref x→x=T)∧T≠it∧T≠D:=by
  by_cases q:∃x,f=.ref x
  ·obtain ⟨x,e⟩:=q
   have h2:@LE.le Nat instLENat (D+1) x:=by
    rw [←hz1]
    exact (t2 x e).1
   exact ⟨x,fun y e'=>by rw [e] at e';cases e';rfl,(t2 x e).2,Nat.ne_of_gt (Nat.lt_of_succ_le h2)⟩
  ·exact ⟨a,fun x e=>absurd ⟨x,e⟩ q,nai,fun e=>hDa e.symm⟩
 have hL:L.size=es.size:=by
  have:=F2.perm.length_eq
  rw [Array.length_toList,Array.length_toList] at this
  exact this
 have W:=(z0g (prog:=prog) (w:=w) (A:=A.in1) (a:=a) (it:=it) (T:=T) (o:=o) (L:=L) (es:=es) (ep:=ep) (t:=t) (by first|exact hh|simpa using hh) hd hf hT nai nT hL).toS
 have hDf:D∉[it,a,T]:=by
  simp only [List.mem_cons,List.not_mem_nil,or_false,not_or]
  exact ⟨nDi,hDa,fun e=>lT e.symm⟩
 refine wpAny_pure ⟨plainId_quiet F.plain_extend_loop _,codeAny_extend_loopS W (fits_of_scanBound hb) D hDf _ es.size 0 _ _ _ rfl (Nat.zero_le _)
  ⟨f,oth it _ (Ne.symm nDi) e2,oth a _ (Ne.symm hDa) (k2 _ _ ho1),hTt,F2.stay fun x e ob q=>oth x ob (by rw [hTt x e];exact lT) q⟩ hS4 (ItemsOf.nil _) fun s' acc c m hS' hacc=>?_⟩
 show wpAny _ A (load D >>= _) _ _ s'
 refine wpAny_bind (wpAny_load hS' (wpAny_pure ?_))
 have ev:acc.toList=L.toList.map fun e=>e.2:=by
  refine List.ext_getElem (by rw [Array.length_toList,zlm,Array.length_toList,hacc.1,hL]) fun i h1 h2=>?_
  rw [Array.length_toList] at h1
  obtain ⟨e,q1,q2⟩:=hacc.2 i acc[i] (Array.getElem?_eq_getElem h1)
  rw [List.getElem_map,Array.getElem_toList,Array.getElem_toList,q2]
  have h3:=(Array.getElem?_eq_some_iff.mp q1)
  obtain ⟨_,h4⟩:=h3
  rw [h4]
 have hI:IntsAre acc.toList (keys L):=by
  rw [ev]
  exact zVa fun e he=>hi e (F2.perm.mem_iff.mp he)
 obtain ⟨h',g',d',tk',os'⟩:=s'
 have e1:g'=s.gens:=m.gens
 have e2:d'=d:=m.drawn
 have e3:os'=s.os:=m.os
 subst e1
 subst e2
 subst e3
 refine h acc.toList (keys L) h' tk' d' hI (by rw [←hk];exact keys_perm F2.perm) (fun b ob q=>?_) (by rw [hD];exact Nat.le_of_lt (Heap.lt_size hS'))
 have hbl:@LT.lt Nat instLTNat b D:=by
  rw [←hD]
  exact Heap.lt_size q
 refine m.heap b ob ?_ (oth b ob (Nat.ne_of_lt hbl) (k2 b ob (hk1 b ob q)))
 simp only [List.mem_cons,List.not_mem_nil,or_false,not_or]
 exact ⟨Nat.ne_of_lt hbl,Nat.ne_of_lt (Nat.lt_trans hbl (Nat.lt_of_succ_le li))⟩
end
open PySem PyProof.Rows
section
variable {prog:Program}{w:World}{A:Around}{E:Value→Shared→Prop}{s:Shared}{a:Addr}{ks:List Int}
theorem sorted_set {Q:Value→Shared→Prop} (hh:A.handled=none) (S:SetR prog w s.heap a (!byT w) ks) (h64:ks.length < 64)
  (h:∀(D:Addr) (out:Array Value) (c:Nat) (ns:List Int) (h':Heap) (tk:Nat) (d:Drawn),IntsAre out.toList ns→ns.Perm ks→ns.Pairwise (·≤·)→s.heap.objs.size≤D→(∀b ob,s.heap.get? b=some ob→h'.get? b=some ob)→h'.get? D=some (seqObj "list" out c)→
   Q (.ref D) { s with heap:=h',toks:=tk,drawn:=d }):wpAny (model prog w) A (call (.builtin "sorted") [.ref a]) Q E s:=by
 refine Calls.call_function_entry kind_sorted plain_sorted entry_sorted (args_sorted1 _) ?_
 unfold Builtin.«sorted»
 refine wpAny_bind (m:=checkCount "sorted" 1 1 _) (wpAny_pure ?_)
 refine wpAny_bind (zRA (A:=A.in1) (by first|exact hh|simpa using hh) S fun vs ns h1 tk d hI hp k1 hle=>?_)
 have hlen:vs.length < 64:=by rw [hI.length,hp.length_eq];exact h64
 refine wpAny_bind (wpAny_newList ?_ (by rw [sizeLine_eq];lia))
 have hD:(h1.push (seqObj "list" vs.toArray 0)).get? h1.objs.size=some (seqObj "list" vs.toArray 0):=Heap.get?_push_size _ rfl
 refine wpAny_bind (wpAny_holding (wpAny_call_entry slot_list_sort ⟨_,hD,rfl⟩ entry_list_sort (list_sort_tree (s:={ s with heap:=h1.push (seqObj "list" vs.toArray 0),toks:=tk,drawn:=d }) hD hI hlen fun out ns' i1 i2 i3=>⟨_,rfl,?_⟩) (args_list_sort _)))
 have sub:=sortedHeap_at (vs:=vs) (out:=out) hD
 obtain ⟨c,hc⟩:=sub
 refine wpAny_pure ⟨_,rfl,h h1.objs.size out c ns' _ tk d i1 (i2.trans hp) i3 hle (fun b ob q=>?_) hc⟩
 have hb:=k1 b ob q
 rw [sortedHeap_old (Nat.ne_of_lt (Heap.lt_size hb)) (by rw [Heap.size_push];exact Nat.lt_succ_of_lt (Heap.lt_size hb))]
 exact Heap.get?_push_of_some _ hb
end
end ChS
namespace L2
open PySem PySem.Spec PyProof.Rows
open PySem.W (envX kla_fn kla_obj kla_callFunE kla_codeExpr)
structure zX4 (p x:Str) (sc:Scope):Prop where
 kind:sc.kind=.function
 co:sc.isCoroutine=false
 gen:sc.isGenerator=false
 ne:p≠x
 par:sc.names.lookup p=some .local
 fre:sc.names.lookup x=some .free
 nocell:∀y∈sc.names,y.2≠.cell
 onlyf:∀y,sc.names.lookup y=some .free→y=x
section
variable {P:Program}{w:World}{K:Fg}{mg:Str→Option Value}{base:Heap}
def zRM (P:Program) (w:World) (K:Fg) (mg:Str→Option Value) (base:Heap) (p x:Str) (qual:Str) (sc:Scope) (f c' cx:Addr) (A:Around) (outer:List Env) (s:Shared) (H:Hp):Cx where
 prog:=P
 w:=w
 K:=K
 mg:=mg
 base:=base
 A:=A.deeper (envX qual sc s.heap.objs.size f (.ref c') [(x,cx)])
 N:=[p,x]
 s_0:=s
 H_0:=H
 env:=envX qual sc s.heap.objs.size f (.ref c') [(x,cx)]
 outer:=outer
 stack:=envX qual sc s.heap.objs.size f (.ref c') [(x,cx)]::outer
 ex:=[]
 calm:=true
 fn:=fun _=>false
 pn:=[]
 xe:=fun _ _=>False
theorem z30 {p x qual:Str}{sc:Scope}{f c' cx:Addr}{A:Around}{outer:List Env}{s:Shared}{H:Hp}{ua ux:Value}{va vx:V}{h1:Heap}{tk:Nat} (S:zX4 p x sc) (hd:A.handled=none) (e0:Env0 P w K mg base A outer s H)
  (ra:RelV va ua) (rx:RelV vx ux) (hc:s.heap.IsCell cx (some ux)) (hn:H cx=none) (ns:h1.Ns s.heap.objs.size (fun y=>([(p,ua)]:List (Str×Value)).reverse.lookup y)) (hk:∀b o,s.heap.get? b=some o→h1.get? b=some o):
  Inv (zRM P w K mg base p x qual sc f c' cx A outer s H) [] [some va,some vx] H { s with heap:=h1,toks:=tk }:=by
 have noA:∀b:Addr,b∉(zRM P w K mg base p x qual sc f c' cx A outer s H).ex:=fun b z=>absurd (show b∈([]:List Addr) from z) (by simp)
 have lk:∀y c,([(x,cx)]:List (Str×Addr)).lookup y=some c→y=x∧c=cx:=fun y c e=>by
  rw [List.lookup_cons] at e
  cases q:y == x with
  | true=>
   rw [q] at e
   exact ⟨eq_of_beq q,(zsi e).symm⟩
  | false=>
   rw [q] at e
   cases e
 have lx:([(x,cx)]:List (Str×Addr)).lookup x=some cx:=by
  rw [List.lookup_cons,beq_self_eq_true]
 have hc1:h1.IsCell cx (some ux):=by
  obtain ⟨o,ho,hd⟩:=hc
  exact ⟨o,hk _ _ ho,hd⟩
 refine ⟨⟨e0.mod,S.kind,rfl,rfl,Nat.le_refl _,fun y z c q1 q2=>(lk y c q1).1.trans (lk z c q2).1.symm,fun y hy=>?_,fun y c z _=>Bool.noConfusion (show false=true from z),fun _=>hd,Around.frames_deeper e0.frames,.inr ⟨rfl,rfl⟩,fun b z=>absurd z (noA b),e0.bs,e0.bsz,fun b _ _=>noA b,fun b z=>absurd z (noA b),e0.funs,e0.frf⟩,
  rfl,e0.bare,Un.kept hk,⟨_,ns,fun i y v q1 q2 q3=>?_⟩,fun y c q=>?_,e0.hok.fresh (Nat.le_refl _),fun y c q=>?_,fun q hq=>absurd (show q∈([]:List (Addr×Obj)) from hq) (by simp),e0.hok.kept hk,rfl⟩
 ·have hy:sc.names.lookup y=some .cell∨sc.names.lookup y=some .free:=hy
  rcases hy with hy|hy
  ·exact absurd rfl (S.nocell _ (PySem.mem_of_lookup hy))
  ·rw [S.onlyf y hy]
   exact ⟨cx,lx⟩
 ·match i,q1,q2 with
  | 0,q1,q2=>
   have ey:p=y:=zsi q1
   have ev:va=v:=zsi (zsi q2)
   subst ey
   subst ev
   refine ⟨ua,ra,.inl ⟨S.par,?_⟩⟩
   show ([(p,ua)]:List (Str×Value)).lookup p=some ua
   rw [List.lookup_cons,beq_self_eq_true]
  | 1,q1,q2=>
   have ey:x=y:=zsi q1
   have ev:vx=v:=zsi (zsi q2)
   subst ey
   subst ev
   exact ⟨ux,rx,.inr ⟨.inr S.fre,cx,lx,hc1⟩⟩
  | i+2,q1,q2=>simp [zRM] at q1
 ·rw [(lk y c q).2]
  exact ⟨_,hc1⟩
 ·rw [(lk y c q).2]
  exact hn
theorem z3v {p x name qual:Str}{params:Arguments}{body:Expr}{sc:Scope}{pm ctv:Value}{f c' cx:Addr}{A:Around}{outer:List Env}{s:Shared}{H:Hp}{ua ux:Value}{va vx:V}{Q:VK}{t:TE}
  (S:zX4 p x sc) (hd:A.handled=none) (hroom:A.depth < recursionLimit) (e0:Env0 P w K mg base A outer s H) (ho:s.heap.get? f=some (kla_obj name qual params body sc [(x,cx)] pm c' ctv)) (hcd:s.heap.CodeRec (.ref c') qual)
  (hbind:bindArgs (kla_fn name qual params body sc [(x,cx)] pm (.ref c') ctv) ⟨[ua],[]⟩=pure [(p,ua)]) (ra:RelV va ua) (rx:RelV vx ux) (hc:s.heap.IsCell cx (some ux)) (hn:H cx=none)
  (hb:PE (zRM P w K mg base p x qual sc f c' cx A outer s H) body t) (ht:t [some va,some vx] H Q):
  codeAny (model P w) A (.call (.ref f) ⟨[ua],[]⟩) (CR CX0 outer P w H s Q E0) s:=by
 refine kla_callFunE hroom ho rfl S.co S.gen rfl hcd ?_
 rw [hbind]
 have lim:s.heap.NoLimit:=e0.mod.nolimit.keeps fun b o e=>(e0.bs b o e).1
 refine wpAny_pure (wpAny_newFunctionEnv S.nocell (fun y hy=>?_) (fun h1 ns sb=>?_) S.kind)
 ·rw [List.mem_singleton.mp hy]
  exact S.par
 ·have hk:∀b o,s.heap.get? b=some o→h1.get? b=some o:=fun b o e=>sb.extBut b o (Nat.ne_of_lt (Heap.lt_size e)) (Heap.get?_push_of_some _ e)
  refine ⟨lim.keeps hk,?_⟩
  show codeAny _ _ (.expr body (envX qual sc s.heap.objs.size f (.ref c') [(x,cx)])) _ _
  have I:=z30 (qual:=qual) (f:=f) (c':=c') (tk:=s.toks+1) S hd e0 ra rx hc hn ns hk
  refine kla_codeExpr (wpAny_mono (hb [] _ _ H Q I ht) (fun u s' ⟨v,H',J,r,q⟩=>?_) fun _ _ z=>z.elim)
  exact ⟨v,H',J.os,J.bare,J.base,J.hok,r,q⟩
end
open PySem PySem.Spec PyProof.Rows
structure uW where
 P:Addr
 pos:Pos
 qual:Str
abbrev zWZ (c:Addr) (qual:Str):HO:=.ext fun h=>h.CodeRec (.ref c) qual
def z3s (L:uW) (H:Hp):Prop:=∃ps,H L.P=some (.tbl ps)∧TriplesOk ps.toList∧(codeAmong L.pos ps.toList=none∨∃c,codeAmong L.pos ps.toList=some (.ref c)∧H c=some (zWZ c L.qual))
def TabsOk (Ts:List uW) (H:Hp):Prop:=∀L∈Ts,z3s L H
def Plain (o:HO):Prop:=∀ps,o≠.tbl ps
theorem yR {xs:List V}:Plain (.lst xs):=fun _ h=>by cases h
theorem zUq {xs:List V}:Plain (.tup xs):=fun _ h=>by cases h
theorem z0 {C dx:Addr}{fs:List (Str×V)}:Plain (.ins C dx fs):=fun _ h=>by cases h
theorem zT7 {a:Addr}:Plain (.own a):=fun _ h=>by cases h
theorem zUh {f:Heap→Prop}:Plain (.ext f):=fun _ h=>by cases h
theorem zSC {a b:Int}:Plain (.rng a b):=fun _ h=>by cases h
theorem zUa {o:Obj}{u:HO}:Plain (.frz o u):=fun _ h=>by cases h
structure Sm (Ts:List uW) (H H':Hp):Prop where
 keep:∀b o,H b=some o→Plain o→H' b=some o
 tab:∀b ps,H b=some (.tbl ps)→∃ps',H' b=some (.tbl ps')
 ok:TabsOk Ts H→TabsOk Ts H'
section
variable {Ts:List uW}{H H1 H2:Hp}{a:Addr}{o:HO}
theorem Sm.refl (H:Hp):Sm Ts H H:=⟨fun _ _ h _=>h,fun _ ps h=>⟨ps,h⟩,fun h=>h⟩
theorem Sm.trans (x:Sm Ts H H1) (y:Sm Ts H1 H2):Sm Ts H H2:=⟨fun b o h p=>y.keep b o (x.keep b o h p) p,fun b ps h=>let ⟨ps',h'⟩:=x.tab b ps h;y.tab b ps' h',fun h=>y.ok (x.ok h)⟩
theorem z4A (o:HO):Plain o∨∃ps,o=.tbl ps:=by
 cases o with
 | tbl ps=>exact .inr ⟨ps,rfl⟩
 | _=>exact .inl fun _ h=>by cases h
theorem Sm.free (x:Sm Ts H H1) (h:H1 a=Option.none):H a=Option.none:=by
 cases q:H a with
 | none=>rfl
 | some o=>
  rcases z4A o with p|⟨ps,rfl⟩
  ·rw [x.keep a o q p] at h
   cases h
  ·obtain ⟨ps',e⟩:=x.tab a ps q
   rw [e] at h
   cases h
theorem zYb (h:H a=Option.none∨∃u,H a=some u∧Plain u∧∀f,u≠.ext f) (T:TabsOk Ts H):TabsOk Ts (upd H a o):=fun L hL=>by
 obtain ⟨ps,e1,e2,e3⟩:=T L hL
 have n1:L.P≠a:=fun z=>by
  rw [z] at e1
  rcases h with h|⟨u,h,p,_⟩
  ·rw [h] at e1
   cases e1
  ·rw [h] at e1
   exact p ps (zsi e1)
 refine ⟨ps,by rw [zP n1];exact e1,e2,?_⟩
 rcases e3 with e3|⟨c,e3,e4⟩
 ·exact .inl e3
 ·have n2:c≠a:=fun z=>by
   rw [z] at e4
   rcases h with h|⟨u,h,_,q⟩
   ·rw [h] at e4
    cases e4
   ·rw [h] at e4
    exact q _ (zsi e4)
  exact .inr ⟨c,e3,by rw [zP n2];exact e4⟩
theorem Sm.new (h:H a=Option.none):Sm Ts H (upd H a o):=⟨fun b u e _=>by rw [zP (zT e h)];exact e,fun b ps e=>⟨ps,by rw [zP (zT e h)];exact e⟩,zYb (.inl h)⟩
theorem Sm.acc {xs:List V} (x:Sm Ts H H1) (h:H a=Option.none) (h1:H1 a=some (.lst xs)):Sm Ts H (upd H1 a o):=
 ⟨fun b u e p=>by rw [zP (zT e h)];exact x.keep b u e p,fun b ps e=>by rw [zP (zT e h)];exact x.tab b ps e,fun t=>zYb (.inr ⟨_,h1,yR,fun f z=>by cases z⟩) (x.ok t)⟩
theorem Sm.add (x:Sm Ts H H1) (h:H1 a=Option.none):Sm Ts H (upd H1 a o):=x.trans (Sm.new h)
theorem Sm.seq {K:Fg}{xs:List V} (e:Sm Ts H H1) (h:SqL K H a xs):SqL K H1 a xs:=by
 rcases h with (h|⟨o,h⟩)|h
 ·exact .inl (.inl (e.keep _ _ h yR))
 ·exact .inl (.inr ⟨o,e.keep _ _ h zUa⟩)
 ·exact .inr h
end
open PySem PySem.Spec PyProof.Rows
open PySem.W (envX kla_fn kla_obj kla_makeFunction kla_makeFunctionHit kla_eval CodeHd tabObj)
structure zT0 (mg:Str→Option Value) (base:Heap) (c:Addr) (L:uW):Prop where
 bm:∃bm ob,mg "__builtins__" = some (.ref bm)∧bm≠builtinsNs∧base.get? bm=some ob∧ob.cls=.type "module" ∧ ob.dict=some builtinsNs∧ob.data=.plain
 code:CodeHd base c L.P
abbrev lamE (f:Addr) (qual:Str) (params:Arguments) (body:Expr) (sc:Scope) (x:Str) (cx:Addr) (pm:Value) (c':Addr) (ctv:Value):HO:=.ext fun h=>h.get? f=some (kla_obj "<lambda>" qual params body sc [(x,cx)] pm c' ctv)
section
variable {X:Cx}{pins:List (Addr×Obj)}{σ:St}{H:Hp}{s:Shared}{Ts:List uW}{L:uW}{c cx:Addr}{x:Str}{params:Arguments}{body:Expr}{sc:Scope}{pos:Pos}
theorem z2e {c:Addr}{qual:Str}{h:Heap}{P:Program}{w:World}{H:Hp} (r:h.CodeRec (.ref c) qual):zZr P w H h c (zWZ c qual):=by
 obtain ⟨c2,oc,vs,t,e,ho,hd,hv⟩:=id r
 cases e
 refine ⟨r,⟨oc,ho⟩,fun h1 h2 r1 k=>?_⟩
 obtain ⟨c3,oc3,vs3,t3,e3,ho3,hd3,hv3⟩:=r1
 cases e3
 exact ⟨c,oc3,vs3,t3,rfl,k _ ho3,hd3,hv3⟩
theorem z1U {f:Addr}{o:Obj}{h:Heap}{P:Program}{w:World}{H:Hp} (e:h.get? f=some o):zZr P w H h f (.ext fun h=>h.get? f=some o):=⟨e,⟨o,e⟩,fun h1 h2 r k=>k _ r⟩
theorem zQb {Q:Value→Shared→Prop} (I:Inv X pins σ H s) (hne:∀L'∈Ts,L'.P=L.P→L'=L) (B:zT0 X.mg X.base c L) (hc:X.env.code=.ref c) (hq:X.env.qual ++ "<lambda>" = L.qual) (hp:pos=L.pos) (hdef:defaultsOf params X.env=([],[]))
  (hcl:closureFor sc X.env=pure [(x,cx)]) (hL:z3s L H)
  (h:∀(f c':Addr) (pm ctv:Value) (H':Hp) (s':Shared),Inv X pins σ H' s'→Sm Ts H H'→H f=Option.none→H' f=some (lamE f L.qual params body sc x cx pm c' ctv)→H' c'=some (zWZ c' L.qual)→Q (.ref f) s'):
  wpAny (model X.prog X.w) X.A (eval (.Lambda params body sc pos) X.env) Q X.xe s:=by
 obtain ⟨ps,e1,e2,e3⟩:=hL
 have hP:s.heap.get? L.P=some (tabObj ps):=I.hok _ _ e1
 have hg:s.heap.Ns mainGlobals X.mg:=I.ok.mod.glob.keeps I.bk
 have C:CodeHd s.heap c L.P:=B.code.keeps I.bk
 obtain ⟨bm,ob,b1,b2,b3,b4,b5,b6⟩:=B.bm
 have nP:∀b o,X.base.get? b=some o→b≠L.P:=fun b o e z=>by
  have:=(I.bs b o e).2
  rw [z,e1] at this
  cases this
 have hgP:mainGlobals≠L.P:=by
  obtain ⟨o,es,ep,e,_⟩:=I.ok.mod.glob
  exact nP _ _ e
 have hbG:bm≠mainGlobals:=fun z=>by
  obtain ⟨o,es,ep,e,hd,_⟩:=I.ok.mod.glob
  rw [z,e] at b3
  cases b3
  rw [hd] at b6
  cases b6
 have hb:s.heap.BuiltinsAt X.mg L.P:=⟨bm,ob,b1,b2,hbG,nP _ _ b3,I.bk _ _ b3,b4,b5,b6⟩
 refine kla_eval hdef ?_
 rw [hq]
 rcases e3 with e3|⟨c',e3,e4⟩
 ·refine kla_makeFunction hcl I.ok.glob hg hc C hP e2 (by rw [hp];exact e3) hgP hb fun c' ctv h' tk hx hge hlt hrec htb=>?_
  generalize hf:h'.objs.size=f
  have hfl:s.heap.objs.size≤f:=by
   rw [←hf]
   exact Nat.le_trans hge (Nat.le_of_lt hlt)
  have nfc:f≠c':=by
   rw [←hf]
   exact Nat.ne_of_gt hlt
  have Hf:H f=Option.none:=I.hok.fresh hfl
  have Hc:H c'=Option.none:=I.hok.fresh hge
  have npc:L.P≠c':=zT e1 Hc
  have npf:L.P≠f:=zT e1 Hf
  generalize hob:kla_obj "<lambda>" L.qual params body sc [(x,cx)] ((X.mg "__name__").getD .none) c' ctv=fo
  have hnf:(h'.push fo).get? f=some fo:=by
   rw [←hf]
   exact Heap.get?_push_size _ (by rw [←hob];rfl)
  have kp:∀b o,b≠L.P→s.heap.get? b=some o→(h'.push fo).get? b=some o:=fun b o n e=>Heap.get?_push_of_some _ (hx b o n e)
  have hPn:(h'.push fo).get? L.P=some (tabObj (ps++#[rawInt pos.line,rawInt pos.col,.ref c'])):=Heap.get?_push_of_some _ htb
  have hrn:(h'.push fo).CodeRec (.ref c') L.qual:=by
   obtain ⟨c2,oc,vs,t,q1,q2,q3,q4⟩:=hrec
   exact ⟨c2,oc,vs,t,q1,Heap.get?_push_of_some _ q2,q3,q4⟩
  generalize hps:ps++#[rawInt pos.line,rawInt pos.col,Value.ref c']=ps'
  rw [hps] at hPn
  have psl:ps'.toList=ps.toList++[rawInt pos.line,rawInt pos.col,.ref c']:=by
   rw [←hps]
   simp
  generalize h'.push fo=g at hnf kp hPn hrn
  have hb2:∀b o,H b=some o→b≠f∧b≠c':=fun b o e=>⟨zT e Hf,zT e Hc⟩
  have val:∀b,(upd (upd (upd H L.P (.tbl ps')) c' (zWZ c' L.qual)) f (.ext fun h=>h.get? f=some fo)) b=if b=f then some (.ext fun h=>h.get? f=some fo) else if b=c' then some (zWZ c' L.qual) else if b=L.P then some (.tbl ps') else H b:=fun b=>rfl
  have keepH:∀b o,H b=some o→b≠L.P→(upd (upd (upd H L.P (.tbl ps')) c' (zWZ c' L.qual)) f (.ext fun h=>h.get? f=some fo)) b=some o:=fun b o e n=>by
   rw [zP (hb2 b o e).1,zP (hb2 b o e).2,zP n]
   exact e
  have ne1:∀{b:Addr}{o:HO},H b=some o→Plain o→b≠L.P:=fun {b o} e p z=>by
   rw [z,e1] at e
   exact p ps (zsi e).symm
  have HP:(upd (upd (upd H L.P (.tbl ps')) c' (zWZ c' L.qual)) f (.ext fun h=>h.get? f=some fo)) L.P=some (.tbl ps'):=by
   rw [zP npf,zP npc]
   exact zX
  have HC:(upd (upd (upd H L.P (.tbl ps')) c' (zWZ c' L.qual)) f (.ext fun h=>h.get? f=some fo)) c'=some (zWZ c' L.qual):=by
   rw [zP (Ne.symm nfc)]
   exact zX
  have HF:(upd (upd (upd H L.P (.tbl ps')) c' (zWZ c' L.qual)) f (.ext fun h=>h.get? f=some fo)) f=some (.ext fun h=>h.get? f=some fo):=zX
  have okH:HOk X.prog X.w (upd (upd (upd H L.P (.tbl ps')) c' (zWZ c' L.qual)) f (.ext fun h=>h.get? f=some fo)) g:=fun b o e=>by
   by_cases q1:b=f
   ·subst q1
    rw [HF] at e
    cases e
    exact z1U hnf
   ·by_cases q2:b=c'
    ·subst q2
     rw [HC] at e
     cases e
     exact z2e hrn
    ·by_cases q3:b=L.P
     ·subst q3
      rw [HP] at e
      cases e
      exact hPn
     ·rw [zP q1,zP q2,zP q3] at e
      refine (I.hok b o e).stay (fun d u hd r=>kp d u ?_ r) (fun d r=>keepH d _ r (ne1 r zT7)) fun d xs r=>keepH d _ r (ne1 r zUq)
      rcases hd with z|z
      ·rw [z]
       exact q3
      ·exact ne1 z zT7
  have un:Un X.fs [] H (upd (upd (upd H L.P (.tbl ps')) c' (zWZ c' L.qual)) f (.ext fun h=>h.get? f=some fo)) s.heap g:=by
   have nn:∀b,H b=Option.none→b≠L.P:=fun b e z=>by
    rw [z,e1] at e
    cases e
   refine ⟨fun b o e n _ _=>kp b o (nn b n) e,fun b o e n _ _=>⟨o.slots,kp b o (nn b n) e⟩,fun b o e n _=>?_,fun b o e _=>?_,fun b xs e=>keepH b _ e (ne1 e zUq),fun b o u e=>keepH b _ e (ne1 e zUa),fun b qs e=>?_⟩
   ·have lb:b < s.heap.objs.size:=Heap.lt_size e
    rw [zP (Nat.ne_of_lt (Nat.lt_of_lt_of_le lb hfl)),zP (Nat.ne_of_lt (Nat.lt_of_lt_of_le lb hge)),zP (nn b n)]
    exact n
   ·by_cases q3:b=L.P
    ·exact ⟨_,by rw [q3];exact hPn⟩
    ·exact ⟨o,kp b o q3 e⟩
   ·by_cases q3:b=L.P
    ·subst q3
     rw [e1] at e
     cases e
     exact ⟨_,by rw [HP,←hps]⟩
    ·exact ⟨#[],by rw [keepH b _ e q3];simp⟩
  have am:codeAmong L.pos ps'.toList=some (.ref c'):=by
   rw [psl,←hp]
   exact codeAmong_snoc _ e2 (by rw [hp];exact e3)
  refine h f c' _ ctv _ _ (I.un (t':=tk) un okH) ⟨fun b o e p=>keepH b o e (ne1 e p),fun b qs e=>?_,fun T L' hL'=>?_⟩ Hf (by rw [HF,←hob]) HC
  ·by_cases q3:b=L.P
   ·exact ⟨ps',by rw [q3];exact HP⟩
   ·exact ⟨qs,keepH b _ e q3⟩
  ·by_cases q3:L'.P=L.P
   ·rw [hne L' hL' q3]
    exact ⟨ps',HP,by rw [psl];exact TriplesOk_snoc _ _ _ _ e2,.inr ⟨c',am,HC⟩⟩
   ·obtain ⟨qs,r1,r2,r3⟩:=T L' hL'
    refine ⟨qs,keepH _ _ r1 q3,r2,?_⟩
    rcases r3 with r3|⟨d,r3,r4⟩
    ·exact .inl r3
    ·exact .inr ⟨d,r3,keepH d _ r4 (ne1 r4 zUh)⟩
 ·refine kla_makeFunctionHit hcl I.ok.glob hg hc C hP e2 (by rw [hp];exact e3) hb fun ctv h' tk kp hsz=>?_
  generalize hf:h'.objs.size=f
  have hfl:s.heap.objs.size≤f:=by
   rw [←hf]
   exact hsz
  have Hf:H f=Option.none:=I.hok.fresh hfl
  refine h f c' _ ctv (upd H f (lamE f L.qual params body sc x cx ((X.mg "__name__").getD .none) c' ctv)) _ (I.laid (t':=tk) (fun b o e=>Heap.get?_push_of_some _ (kp b o e)) hfl (z1U ?_)) (Sm.new Hf) Hf zX (by rw [zP (zT e4 Hf)];exact e4)
  rw [←hf]
  exact Heap.get?_push_size _ rfl
end
open PySem PySem.Spec PyProof.Rows PyProof.Rows.G
theorem z2u (n:Nat):Builtin.Range.rangeSize 0 (n:Int) 1=(n:Int):=by
 unfold Builtin.Range.rangeSize
 rw [if_pos (by decide)]
 split<;>lia
theorem z1R {n:Nat} (h:n≤4096):Builtin.Range.small 0 (n:Int) 1=true:=small_one (by lia) (by lia) (by lia) (by lia)
section
variable {prog:Program}{w:World}{A:Around}{E:Value→Shared→Prop}{s:Shared}
theorem zRi {r:Addr}{n:Nat}{t u v:Tok}{Q:List Value→Shared→Prop} (hh:A.handled=none) (hr:IsRange s.heap r 0 (n:Int) 1 t u v) (hn:n≤4096)
  (h:∀(vs:List Value) (h':Heap) (tk:Nat),IntsAre vs ((List.range n).map fun k:Nat=>(k:Int))→(∀b ob,s.heap.get? b=some ob→h'.get? b=some ob)→Q vs { s with heap:=h',toks:=tk }):wpAny (model prog w) A (collect (.ref r)) Q E s:=by
 unfold collect
 refine wpAny_bind (wpAny_runValue (codeAny_builtin F.entry_proto_collect ?_))
 rw [Around.under_plainId F.plain_proto_collect _]
 show wpAny _ A.in1 (newList [] >>= fun l=>again (.builtin "list.__iadd__" ⟨[l,.ref r],[]⟩)) _ _ s
 refine wpAny_bind (wpAny_newObj_type ?_)
 refine wpAny_pure ⟨plainId_quiet F.plain_list_iadd _,codeAny_builtin F.entry_list_iadd ?_⟩
 rw [Around.under_plainId F.plain_list_iadd _]
 have hS:(s.heap.push { cls:=.type "list", data:=.seq ([]:List Value).toArray }).get? s.heap.objs.size=some { cls:=.type "list", data:=.seq #[] 0 }:=Heap.get?_push_size _ rfl
 show wpAny _ A.in1 (Builtin.List.listExtendWith (.ref s.heap.objs.size) (.ref r) (.ref s.heap.objs.size)) _ _ { s with heap:=s.heap.push { cls:=.type "list", data:=.seq ([]:List Value).toArray } }
 refine wpAny_mono (wpAny_extend_range (R:=wants (fun v s'=>wpAny (model prog w) A (match v with|.ref a=>(do (match (←load a).data with|.seq xs _=>pure xs.toList|_=>unsupported "internal:collect"))|_=>unsupported "internal:collect") Q E s') E) (A:=A) (s:={ s with heap:=s.heap.push { cls:=.type "list", data:=.seq ([]:List Value).toArray } }) hh (Heap.get?_push_of_some _ hr) (z1R hn) (z2u n) (Nat.le_trans hn (by decide)) _ _ 0 hS fun h' tk acc c k e it=>?_) (fun fin s' q=>by cases fin<;>exact q) fun e s' q=>q
 show wpAny _ A (load s.heap.objs.size >>= _) _ _ _
 refine wpAny_bind (wpAny_load e (wpAny_pure (h acc.toList h' tk ?_ fun b ob q=>k b ob (Nat.ne_of_lt (Heap.lt_size q)) (Heap.get?_push_of_some _ q))))
 obtain ⟨z,it⟩:=it
 have gen:∀(l:List Value) (ns:List Int),l.length=ns.length→(∀(i:Nat) (v:Value),l[i]?=some v→∃t,v=Value.int (ns.getD i 0) t)→IntsAre l ns:=by
  intro l
  induction l with
  | nil=>
   intro ns e _
   cases ns with
   | nil=>exact .nil
   | cons _ _=>cases e
  | cons v l ih=>
   intro ns e q
   cases ns with
   | nil=>cases e
   | cons m ns=>
    obtain ⟨t,e1⟩:=q 0 v rfl
    subst e1
    exact .cons m t (ih ns (Nat.succ.inj e) fun i v hv=>q (i+1) v hv)
 refine gen _ _ (by rw [Array.length_toList,zlm,List.length_range];exact z) fun i v hv=>?_
 rw [Array.getElem?_toList] at hv
 have hi:i < n:=by
  rw [←z]
  exact (Array.getElem?_eq_some_iff.mp hv).1
 obtain ⟨t,e1⟩:=it i v hv
 refine ⟨t,?_⟩
 rw [e1,List.getD_eq_getElem?_getD,zgm,List.getElem?_range hi]
 show Value.int (0+(i:Int) * 1) t=Value.int (i:Int) t
 congr 1
 lia
end
theorem zSJ {α β:Type}{g:α→β}:∀{m:List β}{k:List β},m.Perm k→∀l:List α,k=l.map g→∃l':List α,l'.Perm l∧m=l'.map g:=by
 intro m k p
 induction p with
 | nil=>
  intro l e
  exact ⟨l,List.Perm.refl _,e⟩
 | cons x p ih=>
  intro l e
  cases l with
  | nil=>cases e
  | cons a l=>
   obtain ⟨h1,h2⟩:=List.cons.inj e
   obtain ⟨l',q1,q2⟩:=ih l h2
   exact ⟨a::l',q1.cons a,by rw [q2,h1];rfl⟩
 | swap x y p=>
  intro l e
  match l,e with
  | a::b::l,e=>
   obtain ⟨h1,h2⟩:=List.cons.inj e
   obtain ⟨h3,h4⟩:=List.cons.inj h2
   exact ⟨b::a::l,List.Perm.swap _ _ _,by rw [h1,h3,h4];rfl⟩
 | trans p q ih1 ih2=>
  intro l e
  obtain ⟨l2,r1,r2⟩:=ih2 l e
  obtain ⟨l3,r3,r4⟩:=ih1 l2 r2
  exact ⟨l3,r3.trans r1,r4⟩
section
variable {X:Cx}{pins:List (Addr×Obj)}{σ:St}{H:Hp}{s:Shared}
theorem Inv.adopt {D:Addr}{o:HO} (I:Inv X pins σ H s) (f:FpOk X pins H D) (hD:X.s_0.heap.objs.size≤D) (new:zZr X.prog X.w (upd H D o) s.heap D o):Inv X pins σ (upd H D o) s:=by
 obtain ⟨f0,f1,f2,f3,f4,f5⟩:=f
 have kp:∀b u,H b=some u→upd H D o b=some u:=fun b u e=>by
  rw [zP (zT e f0)]
  exact e
 refine ⟨I.ok,I.os,I.bare,⟨I.base.keep,I.base.slot,fun b ob e n hx=>?_,I.base.there,fun b xs e=>kp b _ (I.base.tups b xs e),fun b ob u e=>kp b _ (I.base.frzs b ob u e),fun b ps e=>?_⟩,I.loc,I.cell,?_,fun x c e=>?_,fun p hp=>?_,fun b u e=>?_,I.len⟩
 ·rw [zP (Nat.ne_of_lt (Nat.lt_of_lt_of_le (Heap.lt_size e) hD))]
  exact I.base.free b ob e n hx
 ·obtain ⟨m,q⟩:=I.base.tbls b ps e
  exact ⟨m,kp b _ q⟩
 ·rw [zP (Ne.symm f1)]
  exact I.free
 ·rw [zP (f4 x c e)]
  exact I.freeC x c e
 ·obtain ⟨q1,q2,q3⟩:=I.pin p hp
  exact ⟨q1,by rw [zP (f5 p hp)];exact q2,q3⟩
 ·by_cases q:b=D
  ·subst q
   rw [zX] at e
   cases e
   exact new
  ·rw [zP q] at e
   exact (I.hok b u e).stay (fun _ _ _ r=>r) (fun d r=>kp d _ r) fun d xs r=>kp d _ r
end
open PySem PySem.Spec PyProof.Rows PyProof.Rows.G
abbrev lxLt (a b:List Int):Bool:=lexLt itemOrd (a.map Sum.inl) (b.map Sum.inl)
abbrev qS:Nat→Bool:=fun _=>false
theorem zSy:∀(ns:List Int) (us:List Value) (i:Nat),Vals (ns.map V.int) us→tupItems qS i us=some (ns.map Sum.inl)
 | [],us,i,h=>by
  cases h
  rfl
 | n::ns,us,i,h=>by
  cases h with
  | cons r t=>
   obtain ⟨k,rfl⟩:=r
   show (if qS i=true then none else (tupItems qS (i+1) _).map (Sum.inl n::·))=_
   rw [if_neg (show ¬false=true by decide),zSy ns _ (i+1) t]
   rfl
section
variable {X:Cx}{pins:List (Addr×Obj)}{σ:St}{H:Hp}{s:Shared}
theorem z4s {a:Addr}{ns:List Int} (I:Inv X pins σ H s) (h:H a=some (.tup (ns.map V.int))):tupKeyC s.heap qS (.ref a)=some (ns.map Sum.inl)∧(ns≠[]→∃f,TupOf s.heap qS (.ref a) f):=by
 obtain ⟨_,us,r,o,e,hc,n,hd⟩:=I.hok a _ h
 refine ⟨?_,fun hne=>?_⟩
 ·unfold tupKeyC
  have q:isTupObj s.heap (.ref a)=true:=by
   show (match s.heap.get? a with|some o=>(match o.cls with|.type n=>n == "tuple" | _=>false)|none=>false)=true
   rw [e]
   show (match o.cls with|.type n=>n == "tuple" | _=>false)=true
   rw [hc]
   rfl
  rw [if_pos q]
  show (match s.heap.get? a with|some o=>(match o.data with|.seq xs _=>tupItems qS 0 xs.toList|_=>none)|none=>none)=_
  rw [e]
  show (match o.data with|.seq xs _=>tupItems qS 0 xs.toList|_=>none)=_
  rw [hd]
  exact zSy ns _ 0 (by simpa using r)
 ·cases ns with
  | nil=>exact absurd rfl hne
  | cons z ns=>
   cases r with
   | cons r t=>
    obtain ⟨k,rfl⟩:=r
    exact ⟨.int z k,a,o,_,n,rfl,e,hc,hd,rfl,fun _=>⟨z,k,rfl⟩,fun q=>by cases q⟩
end
theorem z1s {h:Heap}:∀{vs:List Value},(∀v∈vs,∃f,TupOf h qS v f)→∃fs,TupsOf h qS vs fs∧fs.length=vs.length
 | [],_=>⟨[],.nil,rfl⟩
 | v::vs,q=>by
  obtain ⟨f,hf⟩:=q v List.mem_cons_self
  obtain ⟨fs,h1,h2⟩:=z1s fun x hx=>q x (zmc _ hx)
  exact ⟨f::fs,.cons hf h1,by rw [zlc,zlc,h2]⟩
theorem zQd:∀{ts:List Addr}{us:List Value},Vals (ts.map V.ref) us→us=ts.map Value.ref
 | [],us,h=>by
  cases h
  rfl
 | t::ts,us,h=>by
  cases h with
  | cons r q=>
   cases r
   rw [zQd q]
   rfl
structure zS1 (b:Bool) (key:Nat→List Int) (n:Nat) (ks:List Nat):Prop where
 perm:ks.Perm (List.range n)
 ord:ks.Pairwise fun i j=>if b=true then lxLt (key i) (key j)=false else lxLt (key j) (key i)=false
theorem z15 {b:Bool}{key:Nat→List Int}{n:Nat}{g:Nat→Keyed}{arr:Array Keyed} (hp:arr.toList.Perm ((List.range n).map g)) (hs:∀l:List Nat,l.Perm (List.range n)→arr.toList=l.map g→l.Pairwise fun i j=>lxLt (key j) (key i)=false):
  ∃ks,zS1 b key n ks∧(if b=true then (arr.map (·.2)).reverse else arr.map (·.2)).toList=ks.map fun k=>(g k).2:=by
 obtain ⟨l,p,e⟩:=zSJ hp _ rfl
 have q:=hs l p e
 cases b with
 | false=>exact ⟨l,⟨p,q⟩,by rw [if_neg (by decide),Array.toList_map,e,List.map_map];rfl⟩
 | true=>
  refine ⟨l.reverse,⟨(List.reverse_perm _).trans p,List.pairwise_reverse.mpr q⟩,?_⟩
  rw [if_pos rfl,Array.toList_reverse,Array.toList_map,e,List.map_map,←List.map_reverse]
  rfl
open PySem PySem.Spec PyProof.Rows PyProof.Rows.G
section
variable {X:Cx}{pins:List (Addr×Obj)}{σ:St}{H:Hp}{s:Shared}{Ts:List uW}{n:Nat}{key:Nat→List Int}{b:Bool}{f:Value}
abbrev j2 (ts:List Addr) (vs:List Value) (k:Nat):Keyed:=(Value.ref (ts.getD k 0),vs.getD k .none)
theorem z1H {ts:List Addr}{vs:List Value} (h1:ts.length=n) (h2:vs.length=n):((ts.map Value.ref).toArray.zip vs.toArray).toList=(List.range n).map (j2 ts vs):=by
 have e:((ts.map Value.ref).toArray.zip vs.toArray).toList=(ts.map Value.ref).zip vs:=by simp
 rw [e]
 refine List.ext_getElem (by simp [h1,h2]) fun i q1 q2=>?_
 have hi:i < n:=by simpa using q2
 rw [List.getElem_zip,List.getElem_map,List.getElem_map,List.getElem_range]
 have e1:ts.getD i 0=ts[i]:=by rw [List.getD_eq_getElem?_getD,zge (by lia)];rfl
 have e2:vs.getD i .none=vs[i]:=by rw [List.getD_eq_getElem?_getD,zge (by lia)];rfl
 show _=(Value.ref (ts.getD i 0),vs.getD i .none)
 rw [e1,e2]
theorem zTo {h:Heap}{a:Addr}{xs:Array Value}{n:Nat} (ho:h.get? a=some (seqObj "list" xs n)) (g:Array Value→Array Value):∃c,(h.update a (Obj.mapSeq g)).get? a=some (seqObj "list" (g xs) c):=⟨_,get?_update_seq ho g⟩
set_option maxHeartbeats 2000000 in
theorem z18 {D kS:Addr}{ts:List Addr}{vs:List Value}{e1 c:Nat}{P:PySem.Fin→Shared→Prop}{E:Value→Shared→Prop}{A:Around} (I:Inv X ((D,seqObj "list" #[] e1)::pins) σ H s) (hDs:X.s_0.heap.objs.size≤D) (hDc:∀x c,X.env.cells.lookup x=some c→c≠D) (hDp:∀p∈X.pn++pins,p.1≠D)
  (hts:ts.length=n) (hI:IntsAre vs ((List.range n).map fun k:Nat=>(k:Int))) (hn:n≤4096) (hk:H kS=some (.lst (ts.map V.ref))) (hkey:∀k,k < n→key k≠[]) (ht:∀k t,ts[k]?=some t→H t=some (.tup ((key k).map V.int))) (he:s.heap.get? kS=some { cls:=.type "list", data:=.seq (ts.map Value.ref).toArray c })
  (h:∀(ks:List Nat) (H':Hp) (s':Shared),zS1 b key n ks→H'=upd (upd H kS (.lst [])) D (.lst (ks.map fun k:Nat=>V.int k))→Inv X pins σ H' s'→P (.done (.ret .none)) s'):
  wpAny (model X.prog X.w) A (ksk_end D b vs.toArray e1 (.ref kS) (ts.map Value.ref).toArray) P E s:=by
 have hvl:vs.length=n:=by rw [hI.length,zlm,List.length_range]
 have hnl:n≤sizeLine:=by rw [sizeLine_eq];lia
 obtain ⟨pD1,pD2,pD3,pD4,pD5⟩:=I.pin (D,seqObj "list" #[] e1) (List.mem_append_right _ List.mem_cons_self)
 have nkD:D≠kS:=fun z=>by
  rw [←z] at hk
  have pD2':H D=none:=pD2
  rw [pD2'] at hk
  cases hk
 have fin:∀(st:SortSt),failedOf st=none→(arrOf st).toList.Perm ((List.range n).map (j2 ts vs))→(∀l:List Nat,l.Perm (List.range n)→(arrOf st).toList=l.map (j2 ts vs)→l.Pairwise fun i j=>lxLt (key j) (key i)=false)→
   wpAny (model X.prog X.w) A (ksk_tail D b e1 (.ref kS) st) P E s:=fun st hf hp hs=>by
  obtain ⟨ks,R,eo⟩:=z15 (b:=b) (key:=key) hp hs
  have hlen:(if b then ((arrOf st).map (·.2)).reverse else (arrOf st).map (·.2)).size=n:=by
   rw [←Array.length_toList]
   show (if b=true then ((arrOf st).map (·.2)).reverse else (arrOf st).map (·.2)).toList.length=n
   rw [eo,zlm,R.perm.length_eq,List.length_range]
  unfold ksk_tail
  try dsimp only
  refine wpAny_bind (listUpdate_at he rfl ?_ (by rw [List.size_toArray,zlm,hts];lia) (Nat.zero_le _))
  have I1:Inv X ((D,seqObj "list" #[] e1)::pins) σ (upd H kS (.lst [])) { s with heap:=s.heap.update kS (Obj.mapSeq fun _=>#[]),toks:=s.toks }:=I.lset (its':=[]) hk he rfl .nil (Nat.zero_le _)
  have hD1:=(I1.pin (D,seqObj "list" #[] e1) (List.mem_append_right _ List.mem_cons_self)).1
  have I2:Inv X pins σ (upd H kS (.lst [])) { s with heap:=s.heap.update kS (Obj.mapSeq fun _=>#[]),toks:=s.toks }:=I1.pins_of fun p hp=>I1.pin p (List.mem_append_right _ (zmc _ hp))
  refine wpAny_bind (wpAny_letGo ?_)
  refine wpAny_bind (seqEpoch_at hD1 rfl ?_)
  refine wpAny_bind (listUpdate_at hD1 rfl ?_ (Nat.zero_le _) (Nat.le_trans (Nat.le_of_eq hlen) (by lia)))
  rw [hf]
  simp only [bne_self_eq_false,Bool.false_eq_true,if_false]
  have hDn:(upd H kS (.lst [])) D=none:=by
   rw [zP nkD]
   exact pD2
  have fp:FpOk X pins (upd H kS (.lst [])) D:=⟨hDn,pD3,pD4,.inr hDs,hDc,hDp⟩
  obtain ⟨c2,hc2⟩:=zTo hD1 fun _=>if b then ((arrOf st).map (·.2)).reverse else (arrOf st).map (·.2)
  have sb:=Heap.SameBut.update (s.heap.update kS (Obj.mapSeq fun _=>(#[]:Array Value))) D (Obj.mapSeq fun _=>if b then ((arrOf st).map (·.2)).reverse else (arrOf st).map (·.2))
  have I3:=I2.turned (t':=s.toks) (fun d o hd e=>(sb.2 d hd).trans e) hDn pD3 (.inr hDs) hDc hDp
  refine wpAny_pure (h ks _ _ R rfl (I3.adopt fp hDs ⟨by rw [zlm,R.perm.length_eq,List.length_range];exact hnl,ks.map fun k=>(j2 ts vs k).2,c2,?_,?_⟩))
  ·have gen:∀l:List Nat,(∀k∈l,k < n)→Vals (l.map fun k:Nat=>V.int k) (l.map fun k=>(j2 ts vs k).2):=by
    intro l
    induction l with
    | nil=>exact fun _=>.nil
    | cons k l ih=>
     intro q
     refine .cons ?_ (ih fun x hx=>q x (zmc _ hx))
     have hk':k < n:=q k List.mem_cons_self
     obtain ⟨t,e⟩:=IntsAre.int_at hI k vs[k] (zge (by lia))
     refine ⟨t,?_⟩
     show vs.getD k .none=_
     rw [List.getD_eq_getElem?_getD,zge (by lia)]
     show vs[k]=_
     rw [e,List.getD_eq_getElem?_getD,zgm,List.getElem?_range hk']
     rfl
   exact gen ks fun k hk=>List.mem_range.mp (R.perm.mem_iff.mp hk)
  ·show _=some (seqObj "list" (ks.map fun k=>(j2 ts vs k).2).toArray c2)
   rw [hc2,←eo]
 have hz:=z1H (n:=n) hts hvl
 have hstart:(if b=true then ((ts.map Value.ref).toArray.zip vs.toArray).reverse else (ts.map Value.ref).toArray.zip vs.toArray).toList.Perm ((List.range n).map (j2 ts vs)):=by
  cases b with
  | false=>
   rw [if_neg (by decide),hz]
  | true=>
   rw [if_pos rfl,Array.toList_reverse,hz]
   exact List.reverse_perm _
 have step:∀t:Sem PySem.Fin,wpAny (model X.prog X.w) A t P E s→wpAny (model X.prog X.w) A (if b=true then (do let _ ←rule "list.sort.reverse";t) else t) P E s:=fun t ht=>by
  split
  ·exact wpAny_bind (wpAny_rule ht)
  ·exact ht
 unfold ksk_end
 try dsimp only
 refine step _ ?_
 have keyOf:∀k,k < n→(tupKindC s.heap qS).keyOf (j2 ts vs k).1=some ((key k).map Sum.inl)∧∃fv,TupOf s.heap qS (j2 ts vs k).1 fv:=fun k hk=>by
  have e:ts[k]?=some (ts.getD k 0):=by rw [List.getD_eq_getElem?_getD,zge (by lia)];rfl
  obtain ⟨q1,q2⟩:=z4s I (ht k _ e)
  exact ⟨q1,q2 (hkey k hk)⟩
 by_cases h2:vs.toArray.size < 2
 ·rw [if_pos h2,if_pos h2]
  refine wpAny_bind (wpAny_pure ?_)
  rw [StateT.run_pure]
  refine wpAny_bind (wpAny_pure ?_)
  try dsimp only
  refine fin (SortSt.mk' general' (if b=true then ((ts.map Value.ref).toArray.zip vs.toArray).reverse else (ts.map Value.ref).toArray.zip vs.toArray) #[] 7 none) rfl hstart fun l p e=>?_
  rw [List.size_toArray] at h2
  have hl:l.length < 2:=by rw [p.length_eq,List.length_range];lia
  match l,hl with
  | [],_=>exact List.Pairwise.nil
  | [x],_=>exact List.pairwise_singleton _ _
  | _::_::_,hl=>exact absurd hl (by simp)
 ·rw [if_neg h2,if_neg h2]
  rw [List.size_toArray] at h2
  obtain ⟨fs,T1,T2⟩:=z1s (h:=s.heap) (vs:=ts.map Value.ref) fun v hv=>by
   obtain ⟨t,ht',rfl⟩:=List.mem_map.mp hv
   obtain ⟨k,hk',e⟩:=List.getElem_of_mem ht'
   have:=(keyOf k (by lia)).2
   have e2:ts.getD k 0=t:=by rw [List.getD_eq_getElem?_getD,zge hk',e];rfl
   rw [show (j2 ts vs k).1=Value.ref t from congrArg Value.ref e2] at this
   exact this
  refine wpAny_bind (tup_kind (by rw [T2,zlm,hts];lia) T1 ?_)
  try dsimp only
  generalize ha0:(if b=true then ((ts.map Value.ref).toArray.zip vs.toArray).reverse else (ts.map Value.ref).toArray.zip vs.toArray)=a0 at hstart
  have hsz:a0.size=n:=by rw [←Array.length_toList,hstart.length_eq,zlm,List.length_range]
  have hK:KeysOf (tupKindC s.heap qS) a0:=fun p hp=>by
   obtain ⟨k,hk',e⟩:=List.mem_map.mp (hstart.mem_iff.mp hp)
   rw [←e]
   exact ⟨_,(keyOf k (List.mem_range.mp hk')).1⟩
  refine wpAny_bind (wpAny_mono (wpS_sortRunsSt (κ:=tupKindC s.heap qS) (kd:=tuples' true) (a₀:=a0) (st:=SortSt.mk' (tuples' true) a0 #[] 7 none)
   (Q:=fun _ st'=>(arrOf st').Perm a0∧failedOf st'=none∧SortedToK (tupKindC s.heap qS) (arrOf st') a0.size) (tupC_ltAt true (KeepsTups.refl _)) hK ⟨Array.Perm.refl _,rfl,rfl⟩ rfl (Stable.refl _) (by lia) fun st' a1 a2 a3 _=>⟨a1,a2,a3⟩) ?_ fun _ _ e=>e)
  rintro ⟨⟨⟩,st'⟩ s' ⟨hss,hp,hf,hs⟩
  have hss':s'=s:=by first|exact hss|exact hss.symm
  rw [hss']
  clear hss hss'
  try dsimp only
  have hp2:(arrOf st').toList.Perm ((List.range n).map (j2 ts vs)):=(Array.perm_iff_toList_perm.mp hp).trans hstart
  refine fin st' hf hp2 fun l p e=>List.pairwise_iff_getElem.mpr fun i j h1 h3 h4=>?_
  have hl:l.length=n:=by rw [p.length_eq,List.length_range]
  have at_:∀i (h:i < l.length),KK (tupKindC s.heap qS) (arrOf st') i=(key l[i]).map Sum.inl:=fun i h=>by
   have e2:(arrOf st')[i]?=some (j2 ts vs l[i]):=by rw [←Array.getElem?_toList,e,zgm,zge h];rfl
   unfold KK
   rw [e2]
   show ((tupKindC s.heap qS).keyOf (j2 ts vs l[i]).1).getD _=_
   rw [(keyOf l[i] (List.mem_range.mp (p.mem_iff.mp (List.getElem_mem h)))).1]
   rfl
  have:=hs i j (Nat.le_of_lt h4) (by lia)
  rw [at_ i h1,at_ j h3] at this
  exact this
end
open PySem PySem.Spec PyProof.Rows PyProof.Rows.G
section
variable {X:Cx}{pins:List (Addr×Obj)}{σ:St}{H:Hp}{s:Shared}{Ts:List uW}{n:Nat}{key:Nat→List Int}{b:Bool}{f:Value}
def zRu (X:Cx) (σ:St) (Ts:List uW) (A:Around) (f:Value) (n:Nat) (key:Nat→List Int) (H:Hp):Prop:=
 ∀(k:Nat) (t:Tok) (pins:List (Addr×Obj)) (H':Hp) (s':Shared),k < n→Inv X pins σ H' s'→Sm Ts H H'→
  wpAny (model X.prog X.w) A (call f [.int k t]) (fun u s''=>∃a H'',u=.ref a∧Inv X pins σ H'' s''∧Sm Ts H' H''∧H'' a=some (.tup ((key k).map V.int))) (fun _ _=>False) s'
theorem z2J {l:Addr}{xs:List V} (I:Inv X pins σ H s) (h:H l=some (.lst xs)):∃its c,Vals xs its∧s.heap.get? l=some { cls:=.type "list", data:=.seq its.toArray c }:=by
 obtain ⟨_,its,c,r,e⟩:=I.hok l _ h
 exact ⟨its,c,r,e⟩
theorem z02 {D kS:Addr}{vs:List Value}{e1:Nat}{P:PySem.Fin→Shared→Prop}{E:Value→Shared→Prop}{A:Around}{H0:Hp} (I:Inv X ((D,seqObj "list" #[] e1)::pins) σ H s) (hDs:X.s_0.heap.objs.size≤D) (hDc:∀x c,X.env.cells.lookup x=some c→c≠D) (hDp:∀p∈X.pn++pins,p.1≠D)
  (hI:IntsAre vs ((List.range n).map fun k:Nat=>(k:Int))) (hn:n≤4096) (hk:H kS=some (.lst [])) (h0k:H0 kS=none) (h0:Sm Ts H0 H) (hkey:∀k,k < n→key k≠[]) (turn:zRu X σ Ts A f n key H0)
  (h:∀(ks:List Nat) (H' H2:Hp) (s':Shared),zS1 b key n ks→Sm Ts H0 H'→H' D=none→H2=upd H' D (.lst (ks.map fun k:Nat=>V.int k))→Inv X pins σ H2 s'→P (.done (.ret .none)) s'):
  wpAny (model X.prog X.w) A (ksk_rest D f b vs.toArray e1 (.ref kS)) P E s:=by
 have hvl:vs.length=n:=by rw [hI.length,zlm,List.length_range]
 unfold ksk_rest
 refine wpAny_bind (wpAny_rule ?_)
 rw [←Array.forIn_toList]
 simp only [List.toList_toArray]
 refine wpAny_bind (ksk_fold (fun i s'=>∃(H':Hp) (ts:List Addr),Inv X ((D,seqObj "list" #[] e1)::pins) σ H' s'∧Sm Ts H0 H'∧ts.length=i∧H' kS=some (.lst (ts.map V.ref))∧∀k t,ts[k]?=some t→H' t=some (.tup ((key k).map V.int))) vs 0 s
  ⟨H,[],I,h0,rfl,hk,fun k t e=>by simp at e⟩ ?step ?done)
 case step=>
  rintro j x s' hx ⟨H',ts,I',S',hl,hk',ht⟩
  rw [Nat.zero_add] at hl ⊢
  have hj:j < vs.length:=(List.getElem?_eq_some_iff.mp hx).1
  have hjn:j < n:=by lia
  obtain ⟨t,ex⟩:=IntsAre.int_at hI j x hx
  have ej:((List.range n).map fun k:Nat=>(k:Int)).getD j 0=(j:Int):=by
   rw [List.getD_eq_getElem?_getD,zgm,List.getElem?_range hjn]
   rfl
  rw [ej] at ex
  subst ex
  refine wpAny_bind (wpAny_attempt (wpAny_mono (turn j t _ H' s' hjn I' S') (fun u s2 q=>?_) fun _ _ z=>z.elim))
  obtain ⟨a,H2,rfl,I2,S2,ha⟩:=q
  try dsimp only
  have hk2:=S2.keep _ _ hk' yR
  obtain ⟨its,c,rv,he⟩:=z2J I2 hk2
  have hits:its.length=j:=by rw [←rv.length,zlm,hl]
  refine wpAny_bind (listUpdate_at he rfl ?_ (by rw [List.size_toArray,sizeLine_eq];lia) (Nat.le_trans (Nat.le_of_eq (Array.size_push ..)) (by rw [List.size_toArray,sizeLine_eq];lia)))
  have I3:Inv X ((D,seqObj "list" #[] e1)::pins) σ (upd H2 kS (.lst ((ts++[a]).map V.ref))) { s2 with heap:=s2.heap.update kS (Obj.mapSeq (·.push (.ref a))),toks:=s2.toks }:=
   I2.lset (its':=its++[.ref a]) hk2 he (by simp) (by rw [List.map_append];exact rv.append (.cons rfl .nil)) (by rw [zlm,zla,sizeLine_eq,hl];simp;lia)
  have nk:∀{t:Addr}{xs:List V},H2 t=some (.tup xs)→t≠kS:=fun {t xs} e z=>by
   rw [z,hk2] at e
   cases e
  refine wpAny_pure ⟨rfl,_,ts++[a],I3,(S'.trans S2).acc h0k hk2,by rw [zla,hl];rfl,zX,fun k t e=>?_⟩
  rcases Nat.lt_or_ge k ts.length with q|q
  ·rw [List.getElem?_append_left q] at e
   have e2:=S2.keep _ _ (ht k t e) zUq
   rw [zP (nk e2)]
   exact e2
  ·rw [List.getElem?_append_right q] at e
   have hk0:k=ts.length:=by
    have:=(List.getElem?_eq_some_iff.mp e).1
    simp at this
    lia
   rw [hk0,Nat.sub_self] at e
   have et:a=t:=zsi e
   subst et
   rw [zP (nk ha),hk0,hl]
   exact ha
 case done=>
  rintro s' ⟨H',ts,I',S',hl,hk',ht⟩
  rw [Nat.zero_add,hvl] at hl
  obtain ⟨its,c,rv,he⟩:=z2J I' hk'
  rw [zQd rv] at he
  try dsimp only
  refine wpAny_bind (listItems_at he rfl ?_)
  have hDn:H' D=none:=(I'.pin (D,seqObj "list" #[] e1) (List.mem_append_right _ List.mem_cons_self)).2.1
  have nDk:D≠kS:=fun z=>by
   rw [z,hk'] at hDn
   cases hDn
  exact z18 I' hDs hDc hDp hl hI hn hk' hkey ht he fun ks H2 s2 R e J=>h ks (upd H' kS (.lst [])) H2 s2 R (S'.acc h0k hk') (by rw [zP nDk];exact hDn) e J
theorem zR7 {r:Addr}{kw:List (Str×Value)}{Q:Value→Shared→Prop}{E:Value→Shared→Prop} (I:Inv X pins σ H s) (hc:X.calm=true) (hr:H r=some (.rng 0 (n:Int))) (hn:n≤4096) (ha1:argsOk "sorted" ⟨[.ref r],kw⟩) (ha2:∀x,argsOk "list.sort" ⟨[.ref x],kw⟩) (ht:∀x,Builtin.«list.sort» ⟨[.ref x],kw⟩=ksk_tree x f b)
  (hkey:∀k,k < n→key k≠[]) (turn:zRu X σ Ts X.A.in1.in1 f n key H)
  (h:∀(ks:List Nat) (D:Addr) (H':Hp) (s':Shared),zS1 b key n ks→Inv X pins σ H' s'→Sm Ts H H'→H D=none→H' D=some (.lst (ks.map fun k:Nat=>V.int k))→Q (.ref D) s'):
  wpAny (model X.prog X.w) X.A (call (.builtin "sorted") [.ref r] kw) Q E s:=by
 have hh:=I.ok.hd hc
 obtain ⟨t,u,v,eR⟩:=I.hok r _ hr
 refine call_function_entry_kw kind_sorted plain_sorted entry_sorted ha1 ?_
 unfold Builtin.«sorted»
 refine wpAny_bind (m:=checkCount "sorted" 1 1 _) (wpAny_pure ?_)
 refine wpAny_bind (zRi (A:=X.A.in1) hh eR hn fun vs h1 tk hI k1=>?_)
 have hvl:vs.length=n:=by rw [hI.length,zlm,List.length_range]
 have hnl:vs.length≤sizeLine:=by rw [sizeLine_eq];lia
 have I1:Inv X pins σ H { s with heap:=h1,toks:=tk }:=I.kept k1
 refine wpAny_bind (wpAny_newList ?_ hnl)
 generalize hD:h1.objs.size=D
 have hDl:(h1.push (seqObj "list" vs.toArray 0)).get? D=some (seqObj "list" vs.toArray 0):=by
  rw [←hD]
  exact Heap.get?_push_size _ rfl
 have fpD:FpOk X pins H D:=I1.fpOk (by rw [←hD];exact Nat.le_refl _) (I1.hok.fresh (by rw [←hD];exact Nat.le_refl _))
 have hDs:X.s_0.heap.objs.size≤D:=by
  rw [←hD]
  exact I1.sz
 have I2:Inv X pins σ H { s with heap:=h1.push (seqObj "list" vs.toArray 0),toks:=tk }:=I1.kept (t':=tk) fun b o e=>Heap.get?_push_of_some _ e
 generalize h1.push (seqObj "list" vs.toArray 0)=h2 at hDl I2
 have fD:=fpD
 obtain ⟨d0,d1,d2,d3,d4,d5⟩:=fD
 refine wpAny_bind (wpAny_holding (wpAny_call_entry_kw slot_list_sort ⟨_,hDl,rfl⟩ entry_list_sort ?_ (ha2 _)))
 rw [ht D]
 unfold ksk_tree
 refine wpAny_bind (listItems_at hDl rfl ?_)
 refine wpAny_bind (listUpdate_at hDl rfl ?_ (by rw [List.size_toArray];lia) (Nat.zero_le _))
 obtain ⟨e1,hD1⟩:=zTo hDl fun _=>(#[]:Array Value)
 have sb:=Heap.SameBut.update h2 D (Obj.mapSeq fun _=>(#[]:Array Value))
 have I3:Inv X pins σ H { s with heap:=h2.update D (Obj.mapSeq fun _=>#[]),toks:=tk }:=I2.turned (t':=tk) (fun d o hd e=>(sb.2 d hd).trans e) d0 d1 (.inr hDs) d4 d5
 generalize h2.update D (Obj.mapSeq fun _=>(#[]:Array Value))=h3 at hD1 I3
 refine wpAny_bind (seqEpoch_at hD1 rfl ?_)
 refine wpAny_bind (wpAny_newTuple ?_ hnl)
 have I4:Inv X pins σ H { s with heap:=h3.push { cls:=.type "tuple", data:=.seq vs.toArray },toks:=tk }:=I3.kept (t':=tk) fun b o e=>Heap.get?_push_of_some _ e
 have hD4:(h3.push { cls:=.type "tuple", data:=.seq vs.toArray }).get? D=some (seqObj "list" #[] e1):=Heap.get?_push_of_some _ hD1
 generalize (h3.push { cls:=.type "tuple", data:=.seq vs.toArray })=h4 at hD4 I4
 refine wpAny_bind (wpAny_newList ?_ (Nat.zero_le _))
 generalize hS:h4.objs.size=kS
 have hkn:H kS=none:=I4.hok.fresh (by rw [←hS];exact Nat.le_refl _)
 have I5:Inv X pins σ (upd H kS (.lst [])) { s with heap:=h4.push (seqObj "list" #[] 0),toks:=tk }:=I4.laid (t':=tk) (fun b o e=>Heap.get?_push_of_some _ e) (by rw [←hS];exact Nat.le_refl _) ⟨Nat.zero_le _,[],0,.nil,by rw [←hS];exact Heap.get?_push_size _ rfl⟩
 have hD5:(h4.push (seqObj "list" #[] 0)).get? D=some (seqObj "list" #[] e1):=Heap.get?_push_of_some _ hD4
 have nDk:D≠kS:=fun z=>by
  rw [z,←hS] at hD4
  exact absurd (Heap.lt_size hD4) (Nat.lt_irrefl _)
 generalize h4.push (seqObj "list" #[] 0)=h5 at hD5 I5
 refine wpAny_holding ?_
 have I6:Inv X ((D,seqObj "list" #[] e1)::pins) σ (upd H kS (.lst [])) { s with heap:=h5,toks:=tk }:=I5.pins_of fun p hp=>by
  rcases List.mem_cons.mp hp with q|q
  ·rw [q]
   exact ⟨hD5,by rw [zP nDk];exact d0,d1,d2,fun v z=>by cases z⟩
  ·exact I5.pin p (List.mem_append_right _ q)
 refine z02 I6 hDs d4 d5 hI hn zX hkn (Sm.new hkn) hkey turn fun ks H' H2 s' R S' hDn e J=>⟨_,rfl,wpAny_pure ⟨_,rfl,?_⟩⟩
 subst e
 exact h ks D _ s' R J (S'.add hDn) d0 zX
end
open PySem PySem.Spec PyProof.Rows PyProof.Rows.G
open PySem.W (kla_fn kla_obj)
theorem zYU:bootBuiltins "sorted" = some (.builtin "sorted"):=by decide +kernel
theorem zUk:bootBuiltins "range" = some (.type "range"):=by decide +kernel
theorem zQk {X:Cx}:k9 X (.type "range") (fun xs H Q=>∃n:Nat,xs=[.int n]∧∀r,H r=none→Q (.ref r) (upd H r (.rng 0 n))):=by
 intro pins s σ H xs us Q I r h
 obtain ⟨n,rfl,q⟩:=h
 cases r with
 | cons r rr=>
  cases rr
  obtain ⟨t,rfl⟩:=r
  refine call_range_1 ⟨.ref s.heap.objs.size,_,I.laid (o:=.rng 0 n) (fun b o e=>Heap.get?_push_of_some _ e) (Nat.le_refl _) ⟨_,_,_,Heap.get?_push_size _ rfl⟩,rfl,q _ (I.hok.fresh (Nat.le_refl _))⟩
structure Lam (X:Cx) (Ts:List uW) (L:uW) (c:Addr) (p x:Str) (ix:Nat) (params:Arguments) (body:Expr) (sc:Scope) (pos:Pos):Prop where
 calm:X.calm=true
 one:∀L'∈Ts,L'.P=L.P→L'=L
 base:zT0 X.mg X.base c L
 code:X.env.code=.ref c
 qual:X.env.qual ++ "<lambda>" = L.qual
 at_:pos=L.pos
 dflt:defaultsOf params X.env=([],[])
 cell:∃cx,X.env.cells.lookup x=some cx∧closureFor sc X.env=pure [(x,cx)]
 slot:X.N[ix]?=some x
 kind:X.env.scope.names.lookup x=some .cell
 scope:zX4 p x sc
 bind:∀(pm ctv:Value) (c' cx:Addr) (ua:Value),bindArgs (kla_fn "<lambda>" L.qual params body sc [(x,cx)] pm (.ref c') ctv) ⟨[ua],[]⟩=pure [(p,ua)]
def z2W (Ts:List uW) (L:uW) (ix:Nat) (b:Bool) (t:TE) (ta:TA):TE:=fun σ H Q=>ta σ H fun vs H1=>∃(r:Addr) (n:Nat) (vx:V) (key:Nat→List Int),vs=[.ref r]∧H1 r=some (.rng 0 n)∧n≤4096∧z3s L H1∧σ[ix]?=some (some vx)∧(∀k,k < n→key k≠[])∧
 (∀k H2,k < n→Sm Ts H1 H2→t [some (.int k),some vx] H2 fun u H3=>Sm Ts H2 H3∧∃a,u=.ref a∧H3 a=some (.tup ((key k).map V.int)))∧
 ∀ks D H3,zS1 b key n ks→Sm Ts H1 H3→H1 D=none→H3 D=some (.lst (ks.map fun k:Nat=>V.int k))→Q (.ref D) H3
section
variable {X:Cx}{pins:List (Addr×Obj)}{σ:St}{H:Hp}{s:Shared}{Ts:List uW}{L:uW}{c:Addr}{p x:Str}{ix k:Nat}{params:Arguments}{body:Expr}{sc:Scope}{pos:Pos}{t:TE}{ta:TA}{b:Bool}
theorem zQG {f c' cx:Addr}{pm ctv:Value}{vx:V}{n:Nat}{key:Nat→List Int} (M:Lam X Ts L c p x ix params body sc pos) (hr:Room (k+2) X.A) (hb:∀(f c' cx:Addr) (A:Around) (outer:List Env) (s:Shared) (H:Hp),Room k A→PE (zRM X.prog X.w X.K X.mg X.base p x L.qual sc f c' cx A outer s H) body t)
  (hcx:X.env.cells.lookup x=some cx) (hv:σ[ix]?=some (some vx)) (hf:H f=some (lamE f L.qual params body sc x cx pm c' ctv)) (hc:H c'=some (zWZ c' L.qual)) (turn:∀k H2,k < n→Sm Ts H H2→t [some (.int k),some vx] H2 fun u H3=>Sm Ts H2 H3∧∃a,u=.ref a∧H3 a=some (.tup ((key k).map V.int))):
  zRu X σ Ts X.A.in1.in1 (.ref f) n key H:=by
 intro j tk pins' H' s' hj I' S'
 have of:=(I'.hok f _ (S'.keep _ _ hf zUh)).1
 have oc:=(I'.hok c' _ (S'.keep _ _ hc zUh)).1
 obtain ⟨m,_,hl⟩:=I'.loc
 obtain ⟨ux,rx,lk⟩:=hl ix x vx M.slot hv (.inr (.inl M.kind))
 have cell:s'.heap.IsCell cx (some ux):=by
  rcases lk with ⟨q,_⟩|⟨_,d,q1,q2⟩
  ·have q':X.env.scope.names.lookup x=some .local:=q
   rw [M.kind] at q'
   cases q'
  ·rw [hcx] at q1
   cases q1
   exact q2
 have hr2:Room k X.A.in1.in1:=hr.in1.in1
 refine wpAny_call (codeAny_mono (z3v (A:=X.A.in1.in1) (outer:=X.stack) (va:=.int j) M.scope hr2.hd hr2.depth I'.env0.in1.in1 of oc (M.bind pm ctv c' cx _) ⟨tk,rfl⟩ rx cell (I'.freeC x cx hcx) (hb f c' cx _ _ s' H' hr2) (turn j H' hj S')) fun r s2 q=>?_)
 cases r with
 | error e=>exact q.elim
 | ok fl=>
  cases fl with
  | ret u=>
   obtain ⟨v,H2,J,r,S2,a,e,ha⟩:=I'.after q
   subst e
   cases r
   exact ⟨a,H2,rfl,J,S2,ha⟩
  | next=>exact q.elim
  | brk=>exact q.elim
  | cont=>exact q.elim
theorem z2y {e:Expr}{ps kp pos2:Pos} (M:Lam X Ts L c p x ix params body sc pos) (hr:Room (k+2) X.A) (hb:∀(f c' cx:Addr) (A:Around) (outer:List Env) (s:Shared) (H:Hp),Room k A→PE (zRM X.prog X.w X.K X.mg X.base p x L.qual sc f c' cx A outer s H) body t) (hg:Gl X "sorted") (hm:X.mg "sorted" = none) (ha:PA X [e] ta)
  (he:starEach [e] X.env=[(false,eval e X.env)]:=by rfl):PE X (.Call (.Name "sorted" ps) [e] [⟨some "key", .Lambda params body sc pos,kp⟩] pos2) (z2W Ts L ix false t ta):=by
 intro pins s σ H Q I h
 refine wpAny_Call_Name_kw (zTa I hg hm zYU ?_)
 refine callWith_kw (thn (ha pos2 pins s σ H _ I h) fun us s1 ⟨vs,H1,I1,r1,q1⟩=>?_) (by rw [he];rfl) (by rw [he];rfl)
 obtain ⟨r,n,vx,key,rfl,hR,hn,hL,hv,hk,turn,fin⟩:=q1
 rw [Vals.ref1 r1]
 obtain ⟨cx,hcx,hcl⟩:=M.cell
 show wpAny _ _ (evalAll [do let v ←eval (.Lambda params body sc pos) X.env;standAt pos2;pure v]) _ _ s1
 refine wpAny_evalAll_cons (wpAny_bind (zQb I1 M.one M.base M.code M.qual M.at_ M.dflt hcl hL fun f c' pm ctv H2 s2 I2 S2 nf hf hc=>wpAny_bind (wpAny_standAt (wpAny_pure (wpAny_evalAll_nil ?_)))))
 refine zR7 (f:=.ref f) (b:=false) (n:=n) (key:=key) I2 M.calm (S2.keep _ _ hR zSC) hn (ksk_s1 _ _) (fun _=>ksk_l1 _ _) (fun _=>ksk_t1 _ _) hk (zQG M hr hb hcx hv hf hc fun k H3 hk' S3=>turn k H3 hk' (S2.trans S3)) fun ks D H3 s3 R I3 S3 nD hD=>⟨.ref D,H3,I3,rfl,fin ks D H3 R (S2.trans S3) (S2.free nD) hD⟩
theorem z0W {e:Expr}{ps kp kp2 pos2 pc:Pos}{n0:Nat} (M:Lam X Ts L c p x ix params body sc pos) (hr:Room (k+2) X.A) (hb:∀(f c' cx:Addr) (A:Around) (outer:List Env) (s:Shared) (H:Hp),Room k A→PE (zRM X.prog X.w X.K X.mg X.base p x L.qual sc f c' cx A outer s H) body t) (hg:Gl X "sorted") (hm:X.mg "sorted" = none) (ha:PA X [e] ta)
  (he:starEach [e] X.env=[(false,eval e X.env)]:=by rfl):PE X (.Call (.Name "sorted" ps) [e] [⟨some "key", .Lambda params body sc pos,kp⟩,⟨some "reverse", .Constant (.bool true) n0 pc,kp2⟩] pos2) (z2W Ts L ix true t ta):=by
 intro pins s σ H Q I h
 refine wpAny_Call_Name_kw (zTa I hg hm zYU ?_)
 refine callWith_kw (thn (ha pos2 pins s σ H _ I h) fun us s1 ⟨vs,H1,I1,r1,q1⟩=>?_) (by rw [he];rfl) (by rw [he];rfl)
 obtain ⟨r,n,vx,key,rfl,hR,hn,hL,hv,hk,turn,fin⟩:=q1
 rw [Vals.ref1 r1]
 obtain ⟨cx,hcx,hcl⟩:=M.cell
 show wpAny _ _ (evalAll [do let v ←eval (.Lambda params body sc pos) X.env;standAt pos2;pure v,do let v ←eval (.Constant (.bool true) n0 pc) X.env;standAt pos2;pure v]) _ _ s1
 refine wpAny_evalAll_cons (wpAny_bind (zQb I1 M.one M.base M.code M.qual M.at_ M.dflt hcl hL fun f c' pm ctv H2 s2 I2 S2 nf hf hc=>wpAny_bind (wpAny_standAt (wpAny_pure ?_))))
 refine wpAny_evalAll_cons (wpAny_bind (thn ((zQU (X:=X) (b:=true)) pins s2 σ H2 (fun v H'=>v=.bl true∧H'=H2) I2 ⟨rfl,rfl⟩) fun u s3 ⟨v,H3,I3,rv,e1,e2⟩=>wpAny_bind (wpAny_standAt (wpAny_pure (wpAny_evalAll_nil ?_)))))
 subst e1
 subst e2
 cases rv
 refine zR7 (f:=.ref f) (b:=true) (n:=n) (key:=key) I3 M.calm (S2.keep _ _ hR zSC) hn (ksk_s2 _ _ _) (fun _=>ksk_l2 _ _ _) (fun _=>ksk_t2 _ _ _) hk (zQG M hr hb hcx hv hf hc fun k H3 hk' S3=>turn k H3 hk' (S2.trans S3)) fun ks D H3 s3 R I3 S3 nD hD=>⟨.ref D,H3,I3,rfl,fin ks D H3 R (S2.trans S3) (S2.free nD) hD⟩
end
open PySem PySem.Spec PyProof.Rows
open ChS (SetR Once byT)
section
variable {X:Cx}
abbrev setE (X:Cx) (D:Addr) (ks:List Int):HO:=.ext fun h=>SetR X.prog X.w h D (!byT X.w) ks
theorem z34 {P:Program}{w:World}{H:Hp}{h:Heap}{D:Addr}{b:Bool}{ks:List Int} (r:SetR P w h D b ks):zZr P w H h D (.ext fun h=>SetR P w h D b ks):=by
 refine ⟨r,?_,fun h1 h2 r1 k=>r1.at_ k⟩
 obtain ⟨o,_,_,_,ho,_⟩:=r
 exact ⟨o,ho⟩
theorem zS3 (hc:X.calm=true):k9 X (.type "set") (fun xs H Q=>∃a ns,xs=[.ref a]∧SqL X.K H a (ns.map V.int)∧ns.length < 4000∧∀D ks,Once ks ns→H D=none→Q (.ref D) (upd H D (setE X D ks))):=by
 intro pins s σ H xs us Q I r h
 obtain ⟨a,ns,rfl,hs,hl,q⟩:=h
 obtain ⟨its,rv,pl,_⟩:=I.list hs
 rw [Vals.ref1 r]
 have hi:=rv.ints
 have hlen:its.length=ns.length:=hi.length
 refine ChS.set_of_list (ns:=ns) (I.ok.hd hc) pl.isList (by simpa using hi) (by rw [List.size_toArray,hlen];show ns.length+1 < 4096;lia) fun h' tk ks S O k=>?_
 exact ⟨.ref s.heap.objs.size,_,I.laid (o:=setE X s.heap.objs.size ks) (fun b o e=>k b o (Heap.lt_size e) e) (Nat.le_refl _) (z34 S),rfl,q _ _ O (I.hok.fresh (Nat.le_refl _))⟩
theorem zRt:k9 X (.builtin "len") (fun xs H Q=>∃D ks,xs=[.ref D]∧H D=some (setE X D ks)∧Q (.int ks.length) H):=by
 intro pins s σ H xs us Q I r h
 obtain ⟨D,ks,rfl,hD,q⟩:=h
 rw [Vals.ref1 r]
 obtain ⟨o,es,ep,t,ho,hx,hd,_,_,hk,_,hb,hf,_⟩:=(I.hok D _ hD).1
 have hz:es.size=ks.length:=by rw [←ChS.keys_len,hk]
 have hb2:es.size < 4096:=hb
 exact call_len_set ho hx hd hf (by lia) ⟨.int ks.length,H,I.tok _,⟨_,by rw [hz]⟩,q⟩
theorem zU4 (hc:X.calm=true):k9 X (.builtin "sorted") (fun xs H Q=>∃D ks,xs=[.ref D]∧H D=some (setE X D ks)∧ks.length < 64∧∀(ns:List Int) (p:Addr),ns.Perm ks→ns.Pairwise (·≤·)→H p=none→Q (.ref p) (upd H p (.lst (ns.map V.int)))):=by
 intro pins s σ H xs us Q I r h
 obtain ⟨D,ks,rfl,hD,h64,q⟩:=h
 rw [Vals.ref1 r]
 have S:=(I.hok D _ hD).1
 refine ChS.sorted_set (I.ok.hd hc) S h64 fun p out c ns h' tk d i1 i2 i3 hp k e=>?_
 have hlen:(ns.map V.int).length≤sizeLine:=by rw [zlm,i2.length_eq,sizeLine_eq];lia
 have new:zZr X.prog X.w (upd H p (.lst (ns.map V.int))) h' p (.lst (ns.map V.int)):=⟨hlen,out.toList,c,zVm i1,by simpa using e⟩
 have un:Un (frs X.stack) [] H (upd H p (.lst (ns.map V.int))) s.heap h':=Un.laid k hp (I.hok.fresh hp)
 exact ⟨.ref p,_,I.call (g':=s.gens) (d':=d) (t':=tk) (ch:=[]) un (I.hok.laid k hp new) I.bare (fun b z=>absurd z (by simp)),rfl,q ns p i2 i3 (I.hok.fresh hp)⟩
theorem z4z (hu:X.A.units+65 < cLine):OpR X (compareOp .In) (fun x y H Q=>∃d ds,Dp X.K H x d∧Dp X.K H y (.list ds)∧SeqAt.shaped d=true∧SeqAt.shaped (.list ds)=true∧Q (.bl (ds.any fun z=>PyData.eqv z d)) H):=by
 intro pins s σ H x y v u Q I rx ry h
 obtain ⟨d,ds,hd,he,sd,se,q⟩:=h
 obtain ⟨as,r1⟩:=Dp.reads I d x v hd rx
 obtain ⟨bs,r2⟩:=Dp.reads I _ y u he ry
 exact SeqAt.in_list_reads r2 r1 (SeqAt.canLay_of_shaped se) (SeqAt.canLay_of_shaped sd) (room_in_shaped sd hu) ⟨.bl _,H,I,rfl,q⟩
end
open PySem PySem.Spec PyProof.Rows
def Has (K:Fg) (mg:Str→Option Value) (x:Str) (st:Stmt):Prop:=∃f fd,Fun K x x st f fd∧mg x=some (.ref f)
def Own (P:Program) (w:World) (K:Fg) (mg:Str→Option Value) (base:Heap) (k:Nat) (x:Str) (ps:List Str) (sp:Sp):Prop:=
 ∃f fd,FnOk P w K mg base CX0 k f fd ps sp∧mg x=some (.ref f)∧PySem.W.keepIn K (.ref f)=true∧Binds K fd ps []
inductive Sp1 (f:V→Hp→VK→Prop) (vs:List V) (H:Hp) (Q:VK) (E:XK):Prop
 | mk (a:V) (_:vs=[a]) (_:f a H Q):Sp1 f vs H Q E
inductive Sp2 (f:V→V→Hp→VK→Prop) (vs:List V) (H:Hp) (Q:VK) (E:XK):Prop
 | mk (a b:V) (_:vs=[a,b]) (_:f a b H Q):Sp2 f vs H Q E
inductive Sp3 (f:V→V→V→Hp→VK→Prop) (vs:List V) (H:Hp) (Q:VK) (E:XK):Prop
 | mk (a b c:V) (_:vs=[a,b,c]) (_:f a b c H Q):Sp3 f vs H Q E
inductive Sp4 (f:V→V→V→V→Hp→VK→Prop) (vs:List V) (H:Hp) (Q:VK) (E:XK):Prop
 | mk (a b c d:V) (_:vs=[a,b,c,d]) (_:f a b c d H Q):Sp4 f vs H Q E
theorem Room.o {k k':Nat}{A:Around} (h:Room k' A) (l:k≤k':=by decide):Room k A:=h.mono l
theorem fsc {N ps:List Str}{sc:Scope} (h:zO N ps sc:=by exact ⟨rfl,rfl,rfl,by decide +kernel,rfl,by decide +kernel,by decide +kernel⟩):zO N ps sc:=h
section
variable {P:Program}{w:World}{K:Fg}{mg:Str→Option Value}{base:Heap}{k:Nat}{x:Str}{st:Stmt}{N:List Str}
abbrev Body (P:Program) (w:World) (K:Fg) (mg:Str→Option Value) (base:Heap) (k:Nat) (x:Str) (st:Stmt) (N:List Str) (vs:List V) (H:Hp) (Q:VK):Prop:=
 ∀(f:Addr) (cdv:Value) (A:Around) (outer:List Env) (s:Shared) (E:XK),Room k (A.deeper (envOfC x (zU st) s.heap.objs.size f cdv))→
  ∃t,PSs (cxOf CX0 P w K mg base N x (zU st) f cdv A outer s H E).nox (vY st) t∧t { nx:=fun _ H'=>Q .non H',rt:=Q } (start N vs) H
theorem own1 {p:Str}{g:V→Hp→VK→Prop} (D:Has K mg x st) (S:zO N [p] (zU st))
  (b:∀a H Q,g a H Q→Body P w K mg base k x st N [a] H Q) (bd:∀(kV doc pm:Value) (an:Option Addr) (cdv ct:Value) (us:List Value),us.length=([p]:List Str).length→bindArgs (PySem.W.fnOf x x (wY st) (vY st) (zU st) .none kV doc pm an cdv ct) ⟨us,[]⟩=pure (([p]:List Str).zip us):=by exact fun _ _ _ _ _ _ us hl=>match us,hl with|[_],_=>rfl):Own P w K mg base (k+1) x [p] (Sp1 g):=by
 obtain ⟨f,fd,F,m⟩:=D
 exact ⟨f,fd,F.ok S (fun vs H Q E ⟨a,e,_⟩=>by rw [e];rfl) (fun cdv A outer s H vs Q E hr ⟨a,e,h⟩=>by subst e;exact b a H Q h f cdv A outer s E hr),m,F.kp,F.binds bd⟩
theorem own2 {p q:Str}{g:V→V→Hp→VK→Prop} (D:Has K mg x st) (S:zO N [p,q] (zU st))
  (b:∀a c H Q,g a c H Q→Body P w K mg base k x st N [a,c] H Q) (bd:∀(kV doc pm:Value) (an:Option Addr) (cdv ct:Value) (us:List Value),us.length=([p,q]:List Str).length→bindArgs (PySem.W.fnOf x x (wY st) (vY st) (zU st) .none kV doc pm an cdv ct) ⟨us,[]⟩=pure (([p,q]:List Str).zip us):=by exact fun _ _ _ _ _ _ us hl=>match us,hl with|[_,_],_=>rfl):Own P w K mg base (k+1) x [p,q] (Sp2 g):=by
 obtain ⟨f,fd,F,m⟩:=D
 exact ⟨f,fd,F.ok S (fun vs H Q E ⟨a,c,e,_⟩=>by rw [e];rfl) (fun cdv A outer s H vs Q E hr ⟨a,c,e,h⟩=>by subst e;exact b a c H Q h f cdv A outer s E hr),m,F.kp,F.binds bd⟩
theorem own3 {p q r:Str}{g:V→V→V→Hp→VK→Prop} (D:Has K mg x st) (S:zO N [p,q,r] (zU st))
  (b:∀a c d H Q,g a c d H Q→Body P w K mg base k x st N [a,c,d] H Q) (bd:∀(kV doc pm:Value) (an:Option Addr) (cdv ct:Value) (us:List Value),us.length=([p,q,r]:List Str).length→bindArgs (PySem.W.fnOf x x (wY st) (vY st) (zU st) .none kV doc pm an cdv ct) ⟨us,[]⟩=pure (([p,q,r]:List Str).zip us):=by exact fun _ _ _ _ _ _ us hl=>match us,hl with|[_,_,_],_=>rfl):Own P w K mg base (k+1) x [p,q,r] (Sp3 g):=by
 obtain ⟨f,fd,F,m⟩:=D
 exact ⟨f,fd,F.ok S (fun vs H Q E ⟨a,c,d,e,_⟩=>by rw [e];rfl) (fun cdv A outer s H vs Q E hr ⟨a,c,d,e,h⟩=>by subst e;exact b a c d H Q h f cdv A outer s E hr),m,F.kp,F.binds bd⟩
theorem own4 {p q r o:Str}{g:V→V→V→V→Hp→VK→Prop} (D:Has K mg x st) (S:zO N [p,q,r,o] (zU st))
  (b:∀a c d e H Q,g a c d e H Q→Body P w K mg base k x st N [a,c,d,e] H Q) (bd:∀(kV doc pm:Value) (an:Option Addr) (cdv ct:Value) (us:List Value),us.length=([p,q,r,o]:List Str).length→bindArgs (PySem.W.fnOf x x (wY st) (vY st) (zU st) .none kV doc pm an cdv ct) ⟨us,[]⟩=pure (([p,q,r,o]:List Str).zip us):=by exact fun _ _ _ _ _ _ us hl=>match us,hl with|[_,_,_,_],_=>rfl):Own P w K mg base (k+1) x [p,q,r,o] (Sp4 g):=by
 obtain ⟨f,fd,F,m⟩:=D
 exact ⟨f,fd,F.ok S (fun vs H Q E ⟨a,c,d,e,z,_⟩=>by rw [z];rfl) (fun cdv A outer s H vs Q E hr ⟨a,c,d,e,z,h⟩=>by subst z;exact b a c d e H Q h f cdv A outer s E hr),m,F.kp,F.binds bd⟩
end
section
variable {X:Cx}
theorem zS {k:Nat}{x:Str}{ps:List Str}{sp:Sp}{e:Expr}{es:List Expr}{t:TA}{p pos:Pos} (O:Own X.prog X.w X.K X.mg X.base k x ps sp) (hr:Room k X.A) (ha:PA X (e::es) t) (hg:Gl X x:=by rfl) (hdb:(x == ("__debug__" : Str))=false:=by decide)
  (he:starEach (e::es) X.env=(false,eval e X.env)::starEach es X.env:=by rfl) (hpl:(backTo pos (starEach es X.env)).any (·.1)=false:=by rfl):PE X (.Call (.Name x p) (e::es) [] pos) (z4x sp [] E0 t):=by
 obtain ⟨f,fd,F,m,kp,b⟩:=O
 exact z3D F hr hg m kp b .nil z3C ha hdb he hpl
theorem z5 {x:Str}{i:Int}{pos:Pos} (h:∃t,X.mg x=some (.int i t)) (hg:Gl X x:=by rfl) (hd:(x == ("__debug__" : Str))=false:=by decide):PE X (.Name x pos) (tC (.int i)):=by
 obtain ⟨t,e⟩:=h
 exact fun pins s σ H Q I q=>zUT I hg e ⟨.int i,H,I,⟨t,rfl⟩,q⟩ hd
theorem z0f {x:Str}{a:Addr}{pos:Pos} (h:X.mg x=some (.ref a)) (hg:Gl X x:=by rfl) (hd:(x == ("__debug__" : Str))=false:=by decide):PE X (.Name x pos) (tC (.ref a)):=
 fun pins s σ H Q I q=>zUT I hg h ⟨.ref a,H,I,rfl,q⟩ hd
def OwnC (P:Program) (w:World) (K:Fg) (mg:Str→Option Value) (base:Heap) (k:Nat) (x:Str) (C:Addr) (ps:List Str) (sp:Sp):Prop:=
 ∃f fd,FnOk P w K mg base CX0 k f fd ps sp∧mg x=some (.ref C)∧Mk K C f∧Binds K fd ps []
theorem z0U {k:Nat}{x:Str}{C:Addr}{ps:List Str}{sp:Sp}{e:Expr}{es:List Expr}{t:TA}{p pos:Pos} (O:OwnC X.prog X.w X.K X.mg X.base k x C ps sp) (hr:Room (k+1) X.A) (ha:PA X (e::es) t) (hg:Gl X x:=by rfl) (hdb:(x == ("__debug__" : Str))=false:=by decide)
  (he:starEach (e::es) X.env=(false,eval e X.env)::starEach es X.env:=by rfl) (hpl:(backTo pos (starEach es X.env)).any (·.1)=false:=by rfl):PE X (.Call (.Name x p) (e::es) [] pos) (z2F C sp [] E0 t):=by
 obtain ⟨f,fd,F,m,M,b⟩:=O
 exact z3X M F hr hg m b .nil z3C ha hdb he hpl
theorem z45 {k:Nat}{x:Str}{C:Addr}{ps:List Str}{sp:Sp}{p pos:Pos} (O:OwnC X.prog X.w X.K X.mg X.base k x C ps sp) (hr:Room (k+1) X.A) (hg:Gl X x:=by rfl) (hdb:(x == ("__debug__" : Str))=false:=by decide):PE X (.Call (.Name x p) [] [] pos) (z2F C sp [] E0 tNil):=by
 obtain ⟨f,fd,F,m,M,b⟩:=O
 exact z2c M F hr hg m b .nil z3C hdb
end
open PySem PySem.Spec PyProof.Rows
structure y6 (Ts:List uW) (J:It) (n:Nat) (item:Nat→V→Hp→Prop) (H1:Hp):Prop where
 go:∀j H',j < n→Sm Ts H1 H'→J.go j H'
 stop:∀H',Sm Ts H1 H'→J.stop n H'
 yld:∀j H' x H'',j < n→Sm Ts H1 H'→J.yld j H' x H''→Sm Ts H' H''∧item j x H''
section
variable {Ts:List uW}{K:Fg}{H1:Hp}{a b:Addr}{xs ys:List V}
theorem y6.seq (h:SqL K H1 a xs):y6 Ts (Itl K a) xs.length (fun j x _=>xs[j]?=some x) H1 where
 go:=fun j H' hj S=>⟨xs,xs[j],S.seq h,zge hj⟩
 stop:=fun H' S=>⟨xs,S.seq h,Nat.le_refl _⟩
 yld:=fun j H' x H'' hj S ⟨e,q⟩=>by
  subst e
  exact ⟨Sm.refl _,q xs (S.seq h)⟩
theorem y6.rng (n:Nat):y6 Ts (Itr 0 n) n (fun j x _=>x=.int j) H1 where
 go:=fun j H' hj S=>hj
 stop:=fun H' S=>Nat.le_refl _
 yld:=fun j H' x H'' hj S ⟨e,q⟩=>by
  subst e
  exact ⟨Sm.refl _,by rw [q,Int.zero_add]⟩
theorem y6.str (x:Str):y6 Ts (Its x) x.cps.size (fun j v _=>∃c,x.cps[j]?=some c∧v=.str ⟨#[c]⟩) H1 where
 go:=fun j H' hj S=>hj
 stop:=fun H' S=>Nat.le_refl _
 yld:=fun j H' v H'' hj S ⟨e,q⟩=>by
  subst e
  exact ⟨Sm.refl _,q⟩
theorem y6.zip (h:SqL K H1 a xs) (h2:SqL K H1 b ys):y6 Ts (Itz K a b) (min xs.length ys.length) (fun j v H=>∃T x y,v=.ref T∧H T=some (.tup [x,y])∧xs[j]?=some x∧ys[j]?=some y) H1 where
 go:=fun j H' hj S=>⟨xs,ys,xs[j],ys[j],S.seq h,S.seq h2,zge (by lia),zge (by lia)⟩
 stop:=fun H' S=>⟨xs,ys,S.seq h,S.seq h2,by lia⟩
 yld:=fun j H' v H'' hj S ⟨T,x,y,e1,e2,e3,e4,e5⟩=>by
  subst e3
  exact ⟨Sm.new e2,T,x,y,e1,zX,e4 xs (S.seq h),e5 ys (S.seq h2)⟩
theorem zUc {J:It}{n:Nat}{item:Nat→V→Hp→Prop}{g:TG}{te:TE}{vs:List Nat}{σ:St}{D:Addr}{Qd:Hp→Prop} (F:y6 Ts J n item H1) (nD:H1 D=none) (hn:n≤100000) (R:Nat→V→Hp→Prop) (mono:∀j y H H',Sm Ts H H'→R j y H→R j y H') (stab:∀j y H o,R j y H→R j y (upd H D o))
  (step:∀j x H' Q',j < n→Sm Ts H1 H'→(∃acc,H' D=some (.lst acc))→item j x H'→(∀y H3,Sm Ts H' H3→R j y H3→Q' y H3)→g x (wipe σ vs) H' fun σ2 H2=>wipe σ2 vs=wipe σ vs∧te σ2 H2 Q')
  (fin:∀ys H',Sm Ts H1 H'→ys.length=n→(∀j y,ys[j]?=some y→R j y H')→H' D=some (.lst ys)→Qd H'):
  ∃W:Nat→Nat→Hp→Prop,(∃m,W 0 m (upd H1 D (.lst [])))∧∀i m H,W i m H→
   (J.stop i H∧Qd H)∨(J.go i H∧∃Nx:Hp→Prop,(∀H',Nx H'→∃m',m' < m∧W (i+1) m' H')∧∀x H',J.yld i H x H'→g x (wipe σ vs) H' fun σ2 H2=>wipe σ2 vs=wipe σ vs∧tYes σ2 H2 fun b H3=>
    if b=true then te σ2 H3 fun y H4=>∃acc,H4 D=some (.lst acc)∧acc.length < sizeLine∧Nx (upd H4 D (.lst (acc++[y]))) else Nx H3):=by
 refine ⟨fun i m H=>m=n-i∧i≤n∧Sm Ts H1 H∧∃ys:List V,ys.length=i∧H D=some (.lst ys)∧∀j y,ys[j]?=some y→R j y H,⟨n,by simp,Nat.zero_le _,Sm.new nD,[],rfl,zX,fun j y e=>by simp at e⟩,?_⟩
 rintro i m H ⟨rfl,hi,S,ys,hl,hD,hR⟩
 by_cases hlt:i < n
 ·refine .inr ⟨F.go i H hlt S,fun H'=>(i+1)≤n∧Sm Ts H1 H'∧∃ys:List V,ys.length=i+1∧H' D=some (.lst ys)∧∀j y,ys[j]?=some y→R j y H',fun H' q=>⟨n-(i+1),by lia,rfl,q⟩,fun x H' y=>?_⟩
  obtain ⟨S2,it⟩:=F.yld i H x H' hlt S y
  refine step i x H' _ hlt (S.trans S2) ⟨_,S2.keep _ _ hD yR⟩ it fun y H3 S3 r=>?_
  have hD3:=S3.keep _ _ (S2.keep _ _ hD yR) yR
  refine ⟨ys,hD3,by rw [hl,sizeLine_eq];lia,hlt,((S.trans S2).trans S3).acc nD hD3,ys++[y],by rw [zla,hl];rfl,zX,fun j z e=>stab j z H3 _ ?_⟩
  rcases Nat.lt_or_ge j ys.length with q|q
  ·rw [List.getElem?_append_left q] at e
   exact mono j z _ _ (S2.trans S3) (hR j z e)
  ·rw [List.getElem?_append_right q] at e
   have hj:j=ys.length:=by
    have:=(List.getElem?_eq_some_iff.mp e).1
    simp at this
    lia
   rw [hj,Nat.sub_self] at e
   have ez:y=z:=zsi e
   rw [←ez,hj,hl]
   exact r
 ·have e:i=n:=by lia
  subst e
  exact .inl ⟨F.stop H S,fin ys H S hl hR hD⟩
theorem zYz {J:It}{n:Nat}{item:Nat→V→Hp→Prop}{g:TG}{te:TE}{vs:List Nat}{σ:St}{D:Addr}{Qd:Hp→Prop} (F:y6 Ts J n item H1) (nD:H1 D=none) (hn:n≤100000) (f:Nat→Int)
  (step:∀j x H' Q',j < n→Sm Ts H1 H'→item j x H'→(∀H3,Sm Ts H' H3→Q' (.int (f j)) H3)→g x (wipe σ vs) H' fun σ2 H2=>wipe σ2 vs=wipe σ vs∧te σ2 H2 Q')
  (fin:∀H',Sm Ts H1 H'→H' D=some (.lst (((List.range n).map f).map V.int))→Qd H'):
  ∃W:Nat→Nat→Hp→Prop,(∃m,W 0 m (upd H1 D (.lst [])))∧∀i m H,W i m H→
   (J.stop i H∧Qd H)∨(J.go i H∧∃Nx:Hp→Prop,(∀H',Nx H'→∃m',m' < m∧W (i+1) m' H')∧∀x H',J.yld i H x H'→g x (wipe σ vs) H' fun σ2 H2=>wipe σ2 vs=wipe σ vs∧tYes σ2 H2 fun b H3=>
    if b=true then te σ2 H3 fun y H4=>∃acc,H4 D=some (.lst acc)∧acc.length < sizeLine∧Nx (upd H4 D (.lst (acc++[y]))) else Nx H3):=by
 refine zUc F nD hn (fun j y _=>y=.int (f j)) (fun _ _ _ _ _ h=>h) (fun _ _ _ _ h=>h) (fun j x H' Q' hj S _ it k=>step j x H' Q' hj S it fun H3 S3=>k _ H3 S3 rfl) fun ys H' S hl hR hD=>fin H' S ?_
 rw [hD]
 congr 2
 refine List.ext_getElem? fun j=>?_
 rw [zgm,zgm]
 by_cases q:j < n
 ·have hj:j < ys.length:=by lia
  rw [List.getElem?_range q,zge hj,hR j _ (zge hj)]
  rfl
 ·rw [List.getElem?_eq_none (by lia),List.getElem?_eq_none (by rw [List.length_range];lia)]
  rfl
theorem zXJ {J:It}{n:Nat}{item:Nat→V→Hp→Prop}{g:TG}{te:TE}{vs:List Nat}{σ:St}{D:Addr}{Qd:Hp→Prop} (F:y6 Ts J n item H1) (nD:H1 D=none) (hn:n≤100000) (f:Nat→Bool)
  (step:∀j x H' Q',j < n→Sm Ts H1 H'→item j x H'→(∀H3,Sm Ts H' H3→Q' (.bl (f j)) H3)→g x (wipe σ vs) H' fun σ2 H2=>wipe σ2 vs=wipe σ vs∧te σ2 H2 Q')
  (fin:∀H',Sm Ts H1 H'→H' D=some (.lst (((List.range n).map f).map V.bl))→Qd H'):
  ∃W:Nat→Nat→Hp→Prop,(∃m,W 0 m (upd H1 D (.lst [])))∧∀i m H,W i m H→
   (J.stop i H∧Qd H)∨(J.go i H∧∃Nx:Hp→Prop,(∀H',Nx H'→∃m',m' < m∧W (i+1) m' H')∧∀x H',J.yld i H x H'→g x (wipe σ vs) H' fun σ2 H2=>wipe σ2 vs=wipe σ vs∧tYes σ2 H2 fun b H3=>
    if b=true then te σ2 H3 fun y H4=>∃acc,H4 D=some (.lst acc)∧acc.length < sizeLine∧Nx (upd H4 D (.lst (acc++[y]))) else Nx H3):=by
 refine zUc F nD hn (fun j y _=>y=.bl (f j)) (fun _ _ _ _ _ h=>h) (fun _ _ _ _ h=>h) (fun j x H' Q' hj S _ it k=>step j x H' Q' hj S it fun H3 S3=>k _ H3 S3 rfl) fun ys H' S hl hR hD=>fin H' S ?_
 rw [hD]
 congr 2
 refine List.ext_getElem? fun j=>?_
 rw [zgm,zgm]
 by_cases q:j < n
 ·have hj:j < ys.length:=by lia
  rw [List.getElem?_range q,zge hj,hR j _ (zge hj)]
  rfl
 ·rw [List.getElem?_eq_none (by lia),List.getElem?_eq_none (by rw [List.length_range];lia)]
  rfl
theorem z3J {J:It}{n:Nat}{item:Nat→V→Hp→Prop}{g:TG}{tt:TT}{te:TE}{vs:List Nat}{σ:St}{D:Addr}{Qd:Hp→Prop} (F:y6 Ts J n item H1) (nD:H1 D=none) (hn:n≤100000) (f:Nat→Bool) (v:Nat→Int)
  (step:∀j x H' (Qy:VK) (Qn:Hp→Prop),j < n→Sm Ts H1 H'→item j x H'→(f j=true→∀H3,Sm Ts H' H3→Qy (.int (v j)) H3)→(f j=false→∀H3,Sm Ts H' H3→Qn H3)→g x (wipe σ vs) H' fun σ2 H2=>wipe σ2 vs=wipe σ vs∧tt σ2 H2 fun b H3=>if b=true then te σ2 H3 Qy else Qn H3)
  (fin:∀H',Sm Ts H1 H'→H' D=some (.lst ((((List.range n).filter f).map v).map V.int))→Qd H'):
  ∃W:Nat→Nat→Hp→Prop,(∃m,W 0 m (upd H1 D (.lst [])))∧∀i m H,W i m H→
   (J.stop i H∧Qd H)∨(J.go i H∧∃Nx:Hp→Prop,(∀H',Nx H'→∃m',m' < m∧W (i+1) m' H')∧∀x H',J.yld i H x H'→g x (wipe σ vs) H' fun σ2 H2=>wipe σ2 vs=wipe σ vs∧tt σ2 H2 fun b H3=>
    if b=true then te σ2 H3 fun y H4=>∃acc,H4 D=some (.lst acc)∧acc.length < sizeLine∧Nx (upd H4 D (.lst (acc++[y]))) else Nx H3):=by
 refine ⟨fun i m H=>m=n-i∧i≤n∧Sm Ts H1 H∧H D=some (.lst ((((List.range i).filter f).map v).map V.int)),⟨n,by simp,Nat.zero_le _,Sm.new nD,zX⟩,?_⟩
 rintro i m H ⟨rfl,hi,S,hD⟩
 by_cases hlt:i < n
 ·refine .inr ⟨F.go i H hlt S,fun H'=>(i+1)≤n∧Sm Ts H1 H'∧H' D=some (.lst ((((List.range (i+1)).filter f).map v).map V.int)),fun H' q=>⟨n-(i+1),by lia,rfl,q⟩,fun x H' y=>?_⟩
  obtain ⟨S2,it⟩:=F.yld i H x H' hlt S y
  refine step i x H' _ _ hlt (S.trans S2) it (fun e H3 S3=>?_) fun e H3 S3=>?_
  ·have hD3:=S3.keep _ _ (S2.keep _ _ hD yR) yR
   refine ⟨_,hD3,?_,hlt,((S.trans S2).trans S3).acc nD hD3,?_⟩
   ·rw [zlm,zlm,sizeLine_eq]
    have:=List.length_filter_le f (List.range i)
    rw [List.length_range] at this
    lia
   ·rw [zX,List.range_succ,List.filter_append,List.map_append,List.map_append,List.filter_cons,if_pos e]
    rfl
  ·refine ⟨hlt,(S.trans S2).trans S3,?_⟩
   rw [S3.keep _ _ (S2.keep _ _ hD yR) yR,List.range_succ,List.filter_append,List.filter_cons,if_neg (by rw [e];decide),List.filter_nil,List.append_nil]
 ·have e:i=n:=by lia
  subst e
  exact .inl ⟨F.stop H S,fin H S hD⟩
theorem k7 {J:It}{n:Nat}{item:Nat→V→Hp→Prop}{g:TG}{tb:TS}{D:Ends}{σ:St}{Hs:Hp} (F:y6 Ts J n item H1) (Pv:Nat→St→Hp→Prop) (sm:∀i σ H,Pv i σ H→Sm Ts H1 H) (h0:Pv 0 σ Hs)
  (step:∀i x σ H H',i < n→Pv i σ H→Sm Ts H H'→item i x H'→g x σ H' fun σ2 H2=>tb { D with nx:=Pv (i+1),ct:=Pv (i+1),bk:=D.nx } σ2 H2) (fin:∀σ H,Pv n σ H→D.nx σ H):
  ∃W:Nat→Nat→St→Hp→Prop,(∃m,W 0 m σ Hs)∧∀i m σ H,W i m σ H→
   (J.stop i H∧D.nx σ H)∨(J.go i H∧∃N:St→Hp→Prop,(∀σ' H',N σ' H'→∃m',m' < m∧W (i+1) m' σ' H')∧∀x H',J.yld i H x H'→g x σ H' fun σ2 H2=>tb { D with nx:=N,ct:=N,bk:=D.nx } σ2 H2):=by
 refine ⟨fun i m σ H=>m=n-i∧i≤n∧Pv i σ H,⟨n,by simp,Nat.zero_le _,h0⟩,?_⟩
 rintro i m σ H ⟨rfl,hi,p⟩
 by_cases hlt:i < n
 ·refine .inr ⟨F.go i H hlt (sm i σ H p),Pv (i+1),fun σ' H' p'=>⟨n-(i+1),by lia,rfl,hlt,p'⟩,fun x H' y=>?_⟩
  obtain ⟨S2,it⟩:=F.yld i H x H' hlt (sm i σ H p) y
  exact step i x σ H H' hlt p S2 it
 ·have e:i=n:=by lia
  subst e
  exact .inl ⟨F.stop H (sm i σ H p),fin σ H p⟩
end
end L2
namespace Cc
open PySem PySem.Spec PyProof.Rows L2
open GarText (Bytes)
open GarPlug (Car Day)
def top (i:Nat):Stmt:=PySem.Challenge.pw_chargingcars_s01_answers.main.body.getD i (.Pass ⟨0,0,0,0⟩)
abbrev zWP:Stmt:=inClass (top 7) 0
theorem zRC:zO ["self", "name", "comes", "leaves", "need", "rate"] ["self", "name", "comes", "leaves", "need", "rate"] (zU zWP):=fsc
abbrev zWO:Stmt:=inClass (top 8) 0
theorem zRP:zO ["self", "name", "supplies", "prices", "cars"] ["self", "name", "supplies", "prices", "cars"] (zU zWO):=fsc
abbrev zZ8:Stmt:=top 9
theorem zSE:zO ["comes", "leaves", "slots"] ["comes", "leaves", "slots"] (zU zZ8):=fsc
abbrev wW:Stmt:=top 10
theorem zXr:zO ["need", "rate"] ["need", "rate"] (zU wW):=fsc
abbrev zXb:Stmt:=top 11
theorem zRq:zO ["car", "slot"] ["car", "slot"] (zU zXb):=fsc
abbrev zY7:Stmt:=top 12
theorem zUp:zO ["name", "cars", "number"] ["name", "cars"] (zU zY7):=fsc
abbrev zXl:Stmt:=top 14
theorem j3:zO ["cars", "sets", "car", "chosen"] ["cars"] (zU zXl):=fsc
abbrev uX:Stmt:=top 15
theorem jV:zO ["number", "count", "cars", "car"] ["number", "count"] (zU uX):=fsc
abbrev zTw:Stmt:=top 16
theorem zTO:zO ["chosen", "car"] ["chosen"] (zU zTw):=fsc
abbrev zRW:Stmt:=top 17
theorem zRB:zO ["chosen", "supplies", "slot", "car"] ["chosen", "supplies", "slot"] (zU zRW):=fsc
abbrev zR2:Stmt:=top 18
theorem zRa:zO ["chosen", "supplies", "slot"] ["chosen", "supplies"] (zU zR2):=fsc
abbrev zXk:Stmt:=top 19
theorem zRU:zO ["chosen", "supplies"] ["chosen", "supplies"] (zU zXk):=fsc
abbrev kY:Stmt:=top 20
theorem zZv:zO ["sets", "supplies", "slot", "chosen"] ["sets", "supplies", "slot"] (zU kY):=fsc
abbrev zY6:Stmt:=top 21
theorem zXX:zO ["cars", "supplies", "chosen"] ["cars", "supplies"] (zU zY6):=fsc
abbrev j5:Stmt:=top 22
theorem zUi:zO ["cars", "supplies"] ["cars", "supplies"] (zU j5):=fsc
abbrev zZO:Stmt:=top 23
theorem zTZ:zO ["cars", "supplies"] ["cars", "supplies"] (zU zZO):=fsc
abbrev zYc:Stmt:=top 24
theorem zSh:zO ["cars", "supplies"] ["cars", "supplies"] (zU zYc):=fsc
abbrev zTM:Stmt:=top 37
theorem zTF:zO ["word", "sign"] ["word"] (zU zTM):=fsc
abbrev zTN:Stmt:=top 38
theorem zWr:zO ["row", "mark", "found", "part", "byte"] ["row", "mark"] (zU zTN):=fsc
abbrev zXa:Stmt:=top 39
theorem zRc:zO ["byte"] ["byte"] (zU zXa):=fsc
abbrev zYr:Stmt:=top 40
theorem zSi:zO ["byte"] ["byte"] (zU zYr):=fsc
abbrev zXZ:Stmt:=top 41
theorem zWL:zO ["word", "byte"] ["word"] (zU zXZ):=fsc
abbrev zYt:Stmt:=top 42
theorem zZJ:zO ["word", "has_needless_nought", "byte"] ["word"] (zU zYt):=fsc
abbrev zYu:Stmt:=top 43
theorem zZG:zO ["word", "number", "byte"] ["word"] (zU zYu):=fsc
abbrev vT:Stmt:=top 44
theorem zXY:zO ["word", "least", "most"] ["word", "least", "most"] (zU vT):=fsc
abbrev zVK:Stmt:=top 45
theorem z1l:zO ["number"] ["number"] (zU zVK):=fsc
abbrev zWa:Stmt:=top 46
theorem zWY:zO ["words", "line", "word"] ["words"] (zU zWa):=fsc
abbrev zWE:Stmt:=top 48
theorem zWK:zO ["day", "numbers", "name", "car", "place"] ["day", "numbers", "name"] (zU zWE):=fsc
abbrev zZh:Stmt:=top 49
theorem zUV:zO ["day", "car"] ["day", "car"] (zU zZh):=fsc
abbrev zYn:Stmt:=top 50
theorem zT8:zO ["day", "number"] ["day", "number"] (zU zYn):=fsc
abbrev zZQ:Stmt:=top 51
theorem zTv:zO ["day", "slot", "supply"] ["day", "slot", "supply"] (zU zZQ):=fsc
abbrev zYp:Stmt:=top 52
theorem zSY:zO ["day", "slot", "price"] ["day", "slot", "price"] (zU zYp):=fsc
abbrev zZa:Stmt:=top 53
theorem zU3:zO ["row", "slot", "number", "most"] ["row", "slot", "number", "most"] (zU zZa):=fsc
abbrev vQ:Stmt:=top 55
theorem zVD:zO ["prices"] ["prices"] (zU vQ):=fsc
abbrev zZP:Stmt:=top 56
theorem zZg:zO ["day", "sets", "loads", "slot"] ["day"] (zU zZP):=fsc
abbrev zYe:Stmt:=top 57
theorem xO:zO ["day", "loads", "left", "slots", "plan", "number", "sets_behind", "slot", "free", "taken"] ["day", "loads"] (zU zYe):=fsc
abbrev zX2:Stmt:=top 58
theorem zXd:zO ["loads", "prices", "load", "price"] ["loads", "prices"] (zU zX2):=fsc
abbrev zZI:Stmt:=top 59
theorem zTt:zO ["day"] ["day"] (zU zZI):=fsc
abbrev jT:Stmt:=top 60
theorem zYC:zO ["day", "loads"] ["day"] (zU jT):=fsc
abbrev zWl:Stmt:=top 61
theorem zY4:zO ["plan", "day", "slots", "number"] ["plan", "day"] (zU zWl):=fsc
abbrev zY3:Stmt:=top 62
theorem zZn:zO ["rows", "slots", "slot", "row"] ["rows", "slots"] (zU zY3):=fsc
abbrev u0:Stmt:=top 63
theorem jO:zO ["day", "slot", "told", "row"] ["day", "slot"] (zU u0):=fsc
abbrev zVG:Stmt:=top 65
theorem z0H:zO ["day", "slot"] ["day", "slot"] (zU zVG):=fsc
abbrev zVI:Stmt:=top 66
theorem zS7:zO ["day", "slot", "supplies"] ["day", "slot"] (zU zVI):=fsc
abbrev zZb:Stmt:=top 67
theorem w9:zO ["day", "number", "others", "with_it", "chosen"] ["day", "number"] (zU zZb):=fsc
abbrev zYd:Stmt:=top 68
theorem zZE:zO ["day", "number", "car", "later"] ["day", "number"] (zU zYd):=fsc
abbrev uP:Stmt:=top 69
theorem jP:zO ["day", "number", "later", "car", "late"] ["day", "number", "later"] (zU uP):=fsc
abbrev jR:Stmt:=top 70
theorem uR:zO ["day", "sets", "ranked", "place"] ["day"] (zU jR):=fsc
abbrev vW:Stmt:=top 72
theorem zXM:zO ["prices"] ["prices"] (zU vW):=fsc
abbrev vV:Stmt:=top 73
theorem wU:zO ["day", "price", "supply", "cost"] ["day", "price"] (zU vV):=fsc
abbrev zZM:Stmt:=top 74
theorem jX:zO ["day", "prices", "told", "price", "supplies"] ["day"] (zU zZM):=fsc
abbrev qO:Stmt:=top 75
theorem x4:zO ["day", "chosen_sets", "before", "cost", "price", "chosen"] ["day", "chosen_sets"] (zU qO):=fsc
abbrev zY8:Stmt:=top 80
theorem zYg:zO ["rows", "day", "wrong"] ["rows", "day"] (zU zY8):=fsc
abbrev vS:Stmt:=top 81
theorem u9:zO ["rows", "day", "number", "slot"] ["rows", "day"] (zU vS):=fsc
abbrev kX:Stmt:=top 82
theorem zYN:zO ["rows", "day", "number"] ["rows", "day"] (zU kX):=fsc
abbrev x6:Stmt:=top 83
theorem v7:zO ["rows", "day", "loads", "slot"] ["rows", "day"] (zU x6):=fsc
abbrev zY5:Stmt:=top 92
theorem zXP:zO ["text", "line"] ["text"] (zU zY5):=fsc
abbrev zZd:Stmt:=top 93
theorem zZW:zO ["lines", "number", "kind"] ["lines"] (zU zZd):=fsc
abbrev jY:Stmt:=top 94
theorem wQ:zO ["lines", "number", "words", "slots", "names_before", "before"] ["lines", "number"] (zU jY):=fsc
abbrev wR:Stmt:=top 95
theorem zXn:zO ["words", "number"] ["words", "number"] (zU wR):=fsc
abbrev u4:Stmt:=top 96
theorem zWW:zO ["words"] ["words"] (zU u4):=fsc
abbrev j6:Stmt:=top 97
theorem zZx:zO ["words", "head", "most", "slots", "word"] ["words", "head", "most", "slots"] (zU j6):=fsc
abbrev j8:Stmt:=top 98
theorem zUA:zO ["words", "names_before", "slots"] ["words", "names_before", "slots"] (zU j8):=fsc
abbrev zZj:Stmt:=top 99
theorem zZV:zO ["words", "word"] ["words"] (zU zZj):=fsc
abbrev zVN:Stmt:=top 100
theorem zZs:zO ["lines", "supplies", "prices", "cars", "word", "words"] ["lines"] (zU zVN):=fsc
abbrev zVF:Stmt:=top 101
theorem zUK:zO ["words", "numbers", "word"] ["words"] (zU zVF):=fsc
abbrev zWu:Stmt:=top 102
theorem w8:zO ["day", "text", "car", "numbers", "supply", "price", "number"] ["day"] (zU zWu):=fsc
abbrev zYa:Stmt:=top 104
theorem zSr:zO ["day"] ["day"] (zU zYa):=fsc
abbrev zXe:Stmt:=top 105
theorem zVY:zO ["day", "excess"] ["day"] (zU zXe):=fsc
abbrev zYl:Stmt:=top 106
theorem kO:zO ["day", "row", "chosen", "number"] ["day", "row"] (zU zYl):=fsc
abbrev zYf:Stmt:=top 107
theorem zSe:zO ["day"] ["day"] (zU zYf):=fsc
abbrev zZc:Stmt:=top 108
theorem vZ:zO ["day", "row", "sets", "number"] ["day", "row"] (zU zZc):=fsc
abbrev zZR:Stmt:=top 109
theorem zZi:zO ["day", "row", "slots", "rows", "wrong"] ["day", "row"] (zU zZR):=fsc
abbrev qP:Stmt:=top 110
theorem zUX:zO ["day"] ["day"] (zU qP):=fsc
abbrev zXQ:Stmt:=inClass (top 134) 0
theorem zSw:zO ["self"] ["self"] (zU zXQ):=fsc
abbrev zWy:Stmt:=top 135
theorem xP:zO ["calls", "park", "told", "place", "call", "numbers_end", "numbers", "row", "answer"] ["calls"] (zU zWy):=fsc
abbrev zYq:Stmt:=top 136
theorem zT5:zO ["park", "call", "numbers", "row"] ["park", "call", "numbers", "row"] (zU zYq):=fsc
abbrev s_load:Stmt:=top 137
theorem zRy:zO ["park", "text", "lines", "fault"] ["park", "text"] (zU s_load):=fsc
abbrev vU:Stmt:=top 138
theorem zXL:zO ["day", "call", "numbers", "row"] ["day", "call", "numbers", "row"] (zU vU):=fsc
abbrev wV:Stmt:=top 139
theorem zXm:zO ["day", "call", "row"] ["day", "call", "row"] (zU wV):=fsc
abbrev u1:Stmt:=top 140
theorem zWU:zO ["day", "call"] ["day", "call"] (zU u1):=fsc
abbrev jU:Stmt:=top 141
theorem k8:zO ["day", "call", "number", "there_are"] ["day", "call", "number"] (zU jU):=fsc
abbrev zYs:Stmt:=top 142
theorem zSD:zO ["day", "call", "number"] ["day", "call", "number"] (zU zYs):=fsc
structure Adr where
 CC:Addr
 CD:Addr
 CP:Addr
 c1:Addr
 P1:Addr
 c2:Addr
 P2:Addr
abbrev L1 (t:Adr):uW:=⟨t.P1,⟨149,42,149,75⟩,"dearest_first.<locals>.<lambda>"⟩
abbrev L2_ (t:Adr):uW:=⟨t.P2,⟨208,42,208,105⟩,"refused_set.<locals>.<lambda>"⟩
abbrev Ts (t:Adr):List uW:=[L1 t,L2_ t]
def TupK (K:Fg) (mg:Str→Option Value) (x:Str) (ns:List Int):Prop:=∃a,mg x=some (.ref a)∧∀H,SqT K H a (ns.map V.int)
structure z2f (K:Fg) (C:Addr) (fs:List Str):Prop where
 cl:Cls K C
 no:∀f∈fs,zW3 K C f
structure Txt (K:Fg) (mg:Str→Option Value) (t:Adr):Prop where
 g_MOST_SLOTS:∃k,mg "MOST_SLOTS" = some (.int (12) k)
 g_MOST_CARS:∃k,mg "MOST_CARS" = some (.int (6) k)
 g_MOST_SUPPLY:∃k,mg "MOST_SUPPLY" = some (.int (60) k)
 g_MOST_PRICE:∃k,mg "MOST_PRICE" = some (.int (999) k)
 g_MOST_NEED:∃k,mg "MOST_NEED" = some (.int (99) k)
 g_MOST_RATE:∃k,mg "MOST_RATE" = some (.int (20) k)
 g_OUT_OF_BOUNDS:∃k,mg "OUT_OF_BOUNDS" = some (.int (-1) k)
 g_TOO_LONG:∃k,mg "TOO_LONG" = some (.int (-2) k)
 g_NO_DAY:∃k,mg "NO_DAY" = some (.int (-3) k)
 g_NO_SUCH:∃k,mg "NO_SUCH" = some (.int (-4) k)
 g_NOT_FILLED:∃k,mg "NOT_FILLED" = some (.int (-5) k)
 g_FAULT:∃k,mg "FAULT" = some (.int (-6) k)
 g_SIX_CARS:∃k,mg "SIX_CARS" = some (.int (-7) k)
 g_LINE_END:∃k,mg "LINE_END" = some (.int (10) k)
 g_BLANK:∃k,mg "BLANK" = some (.int (32) k)
 g_MOST_NAME_BYTES:∃k,mg "MOST_NAME_BYTES" = some (.int (12) k)
 g_MOST_DIGITS:∃k,mg "MOST_DIGITS" = some (.int (9) k)
 g_MORE_THAN_IT_CAN:∃k,mg "MORE_THAN_IT_CAN" = some (.int (1) k)
 g_NOT_ITS_NEED:∃k,mg "NOT_ITS_NEED" = some (.int (2) k)
 g_MORE_THAN_THERE_IS:∃k,mg "MORE_THAN_THERE_IS" = some (.int (3) k)
 g_FIRST_CAR_LINE:∃k,mg "FIRST_CAR_LINE" = some (.int (3) k)
 g_NO_FAULT:∃k,mg "NO_FAULT" = some (.int (0) k)
 g_NO_SUCH_LINE:∃k,mg "NO_SUCH_LINE" = some (.int (1) k)
 g_OTHER_COUNT:∃k,mg "OTHER_COUNT" = some (.int (2) k)
 g_NO_STAY:∃k,mg "NO_STAY" = some (.int (3) k)
 g_NAME_AGAIN:∃k,mg "NAME_AGAIN" = some (.int (4) k)
 g_CAR_TOO_MANY:∃k,mg "CAR_TOO_MANY" = some (.int (5) k)
 g_LOAD:∃k,mg "LOAD" = some (.int (0) k)
 g_CAR:∃k,mg "CAR" = some (.int (1) k)
 g_GONE:∃k,mg "GONE" = some (.int (2) k)
 g_SUPPLY:∃k,mg "SUPPLY" = some (.int (3) k)
 g_PRICE:∃k,mg "PRICE" = some (.int (4) k)
 g_TEXT:∃k,mg "TEXT" = some (.int (5) k)
 g_CAN:∃k,mg "CAN" = some (.int (6) k)
 g_ASKS:∃k,mg "ASKS" = some (.int (7) k)
 g_MOST:∃k,mg "MOST" = some (.int (8) k)
 g_PLAN:∃k,mg "PLAN" = some (.int (9) k)
 g_LOADS:∃k,mg "LOADS" = some (.int (10) k)
 g_PROOF:∃k,mg "PROOF" = some (.int (11) k)
 g_PROVES:∃k,mg "PROVES" = some (.int (12) k)
 g_JUDGE:∃k,mg "JUDGE" = some (.int (13) k)
 g_SPARE:∃k,mg "SPARE" = some (.int (15) k)
 g_GAIN:∃k,mg "GAIN" = some (.int (16) k)
 g_MORE:∃k,mg "MORE" = some (.int (17) k)
 g_LATE:∃k,mg "LATE" = some (.int (18) k)
 g_NOW:∃k,mg "NOW" = some (.int (19) k)
 g_MOST_BYTES:∃k,mg "MOST_BYTES" = some (.int (2048) k)
 b_len:mg "len" = none
 b_sum:mg "sum" = none
 b_max:mg "max" = none
 b_min:mg "min" = none
 b_all:mg "all" = none
 b_any:mg "any" = none
 b_ord:mg "ord" = none
 b_list:mg "list" = none
 b_str:mg "str" = none
 b_range:mg "range" = none
 b_zip:mg "zip" = none
 b_sorted:mg "sorted" = none
 b_set:mg "set" = none
 d_stay_fits:Has K mg "stay_fits" zZ8
 d_need_and_rate_fit:Has K mg "need_and_rate_fit" wW
 d_can_take:Has K mg "can_take" zXb
 d_place_of:Has K mg "place_of" zY7
 d_all_sets:Has K mg "all_sets" zXl
 d_counted_members:Has K mg "counted_members" uX
 d_wants:Has K mg "wants" zTw
 d_gets:Has K mg "gets" zRW
 d_room:Has K mg "room" zR2
 d_too_much:Has K mg "too_much" zXk
 d_wanted_there:Has K mg "wanted_there" kY
 d_excesses:Has K mg "excesses" zY6
 d_worst_excess:Has K mg "worst_excess" j5
 d_all_filled:Has K mg "all_filled" zZO
 d_worst_set:Has K mg "worst_set" zYc
 d_signs:Has K mg "signs" zTM
 d_parts:Has K mg "parts" zTN
 d_is_digit:Has K mg "is_digit" zXa
 d_is_letter:Has K mg "is_letter" zYr
 d_is_name:Has K mg "is_name" zXZ
 d_is_number:Has K mg "is_number" zYt
 d_number_of:Has K mg "number_of" zYu
 d_is_number_within:Has K mg "is_number_within" vT
 d_digits:Has K mg "digits" zVK
 d_line_of:Has K mg "line_of" zWa
 d_put_car:Has K mg "put_car" zWE
 d_could_stand:Has K mg "could_stand" zZh
 d_take_away:Has K mg "take_away" zYn
 d_set_supply:Has K mg "set_supply" zZQ
 d_set_price:Has K mg "set_price" zYp
 d_set_in_slot:Has K mg "set_in_slot" zZa
 d_told_loads:Has K mg "told_loads" zZP
 d_told_plan:Has K mg "told_plan" zYe
 d_cost_of:Has K mg "cost_of" zX2
 d_least_cost:Has K mg "least_cost" zZI
 d_cost_and_plan:Has K mg "cost_and_plan" jT
 d_rows_of:Has K mg "rows_of" zWl
 d_loads_of:Has K mg "loads_of" zY3
 d_taken_and_left:Has K mg "taken_and_left" u0
 d_spared:Has K mg "spared" zVG
 d_gained:Has K mg "gained" zVI
 d_needed_more:Has K mg "needed_more" zZb
 d_come_late:Has K mg "come_late" zYd
 d_filled_if_late:Has K mg "filled_if_late" uP
 d_prices_but_least:Has K mg "prices_but_least" vW
 d_cheaper_supplies:Has K mg "cheaper_supplies" vV
 d_told_proof:Has K mg "told_proof" zZM
 d_proven_cost:Has K mg "proven_cost" qO
 d_wrong_of:Has K mg "wrong_of" zY8
 d_more_than_it_can:Has K mg "more_than_it_can" vS
 d_not_its_need:Has K mg "not_its_need" kX
 d_more_than_there_is:Has K mg "more_than_there_is" x6
 d_lines_of:Has K mg "lines_of" zY5
 d_first_fault:Has K mg "first_fault" zZd
 d_kind_of_fault:Has K mg "kind_of_fault" jY
 d_fault_behind_last:Has K mg "fault_behind_last" wR
 d_fault_of_first:Has K mg "fault_of_first" u4
 d_fault_of_row:Has K mg "fault_of_row" j6
 d_fault_of_car:Has K mg "fault_of_car" j8
 d_is_car_line:Has K mg "is_car_line" zZj
 d_day_of:Has K mg "day_of" zVN
 d_car_of:Has K mg "car_of" zVF
 d_text_of:Has K mg "text_of" zWu
 d_tell_text:Has K mg "tell_text" zYa
 d_tell_can:Has K mg "tell_can" zXe
 d_tell_asks:Has K mg "tell_asks" zYl
 d_tell_most:Has K mg "tell_most" zYf
 d_tell_proves:Has K mg "tell_proves" zZc
 d_tell_judge:Has K mg "tell_judge" zZR
 d_tell_refuse:Has K mg "tell_refuse" qP
 d_answers:Has K mg "answers" zWy
 d_answer_of:Has K mg "answer_of" zYq
 d_load:Has K mg "load" s_load
 d_answer_of_change:Has K mg "answer_of_change" vU
 d_answer_of_telling:Has K mg "answer_of_telling" wV
 d_answer_of_plan:Has K mg "answer_of_plan" u1
 d_answer_of_one:Has K mg "answer_of_one" jU
 d_margin_of:Has K mg "margin_of" zYs
 k_Car:z2f K t.CC ["name", "comes", "leaves", "need", "rate"]
 k_Day:z2f K t.CD ["name", "supplies", "prices", "cars"]
 k_Park:z2f K t.CP ["day"]
 u_NUMBERS:TupK K mg "NUMBERS" [0,4,1,2,2,0,0,0,0,0,0,0,0,0,0,1,1,1,1,1]
 u_ROWS:TupK K mg "ROWS" [1,1,0,0,0,0,0,1,0,0,0,0,1,1,0,0,0,0,0,0]
 i_Car:∃f fd,Fun K "__init__" "Car.__init__" zWP f fd∧mg "Car" = some (.ref t.CC)∧Mk K t.CC f
 i_Day:∃f fd,Fun K "__init__" "Day.__init__" zWO f fd∧mg "Day" = some (.ref t.CD)∧Mk K t.CD f
 i_Park:∃f fd,Fun K "__init__" "Park.__init__" zXQ f fd∧mg "Park" = some (.ref t.CP)∧Mk K t.CP f
def IL (H:Hp) (a:Addr) (ns:List Int):Prop:=H a=some (.lst (ns.map V.int))
def zn (l:List Nat):List Int:=l.map fun (n:Nat)=>(n:Int)
def zb (b:Bytes):List Int:=b.map fun (c:UInt8)=>(c.toNat:Int)
inductive All2 {α β:Type} (R:α→β→Prop):List α→List β→Prop
 | nil:All2 R [] []
 | cons {a:α}{b:β}{l:List α}{m:List β}:R a b→All2 R l m→All2 R (a::l) (b::m)
theorem All2.len {α β:Type}{R:α→β→Prop}{l:List α}{m:List β} (h:All2 R l m):l.length=m.length:=by
 induction h with
 | nil=>rfl
 | cons _ _ ih=>rw [zlc,zlc,ih]
theorem All2.get {α β:Type}{R:α→β→Prop}{l:List α}{m:List β} (h:All2 R l m):∀{i:Nat}{a:α}{b:β},l[i]?=some a→m[i]?=some b→R a b:=by
 induction h with
 | nil=>
  intro i a b e
  simp at e
 | cons r _ ih=>
  intro i a b e1 e2
  cases i with
  | zero=>
   cases zsi e1
   cases zsi e2
   exact r
  | succ i=>exact ih e1 e2
theorem All2.of {α β:Type}{R:α→β→Prop}:∀{l:List α}{m:List β},l.length=m.length→(∀(i:Nat) (a:α) (b:β),l[i]?=some a→m[i]?=some b→R a b)→All2 R l m
 | [],[],_,_=>.nil
 | [],_::_,h,_=>by cases h
 | _::_,[],h,_=>by cases h
 | a::l,b::m,h,k=>.cons (k 0 a b rfl rfl) (All2.of (Nat.succ.inj h) fun i x y e1 e2=>k (i+1) x y e1 e2)
theorem All2.imp {α β:Type}{R S:α→β→Prop}{l:List α}{m:List β} (h:All2 R l m) (f:∀a b,R a b→S a b):All2 S l m:=by
 induction h with
 | nil=>exact .nil
 | cons r _ ih=>exact .cons (f _ _ r) ih
theorem All2.app {α β:Type}{R:α→β→Prop}{l l2:List α}{m m2:List β} (h:All2 R l m) (h2:All2 R l2 m2):All2 R (l++l2) (m++m2):=by
 induction h with
 | nil=>exact h2
 | cons r _ ih=>exact .cons r ih
theorem All2.drop {α β:Type}{R:α→β→Prop}{l:List α}{m:List β} (h:All2 R l m) (n:Nat):All2 R (l.drop n) (m.drop n):=by
 refine All2.of (by rw [List.length_drop,List.length_drop,h.len]) fun i a b e1 e2=>?_
 rw [List.getElem?_drop] at e1 e2
 exact h.get e1 e2
theorem All2.take {α β:Type}{R:α→β→Prop}{l:List α}{m:List β} (h:All2 R l m) (n:Nat):All2 R (l.take n) (m.take n):=by
 refine All2.of (by rw [List.length_take,List.length_take,h.len]) fun i a b e1 e2=>?_
 rw [List.getElem?_take] at e1 e2
 split at e1
 ·rename_i q
  rw [if_pos q] at e2
  exact h.get e1 e2
 ·cases e1
theorem All2.pick {α β:Type}{R:α→β→Prop}{l:List α}{m:List β} (h:All2 R l m) (a:Nat):All2 R (Chg.pick l a) (Chg.pick m a):=by
 unfold Chg.pick
 have gen:∀{l:List α}{m:List β} (n:Nat),All2 R l m→All2 R (((l.zipIdx n).filter fun (x:α×Nat)=>a.testBit x.2).map fun (x:α×Nat)=>x.1) (((m.zipIdx n).filter fun (x:β×Nat)=>a.testBit x.2).map fun (x:β×Nat)=>x.1):=by
  intro l m n h
  induction h generalizing n with
  | nil=>exact .nil
  | cons r _ ih=>
   rw [List.zipIdx_cons,List.zipIdx_cons,List.filter_cons,List.filter_cons]
   by_cases q:a.testBit n=true
   ·rw [if_pos q,if_pos q]
    exact .cons r (ih (n+1))
   ·rw [if_neg q,if_neg q]
    exact ih (n+1)
 exact gen 0 h
def RefL (H:Hp) (a:Addr) (as:List Addr):Prop:=H a=some (.lst (as.map V.ref))
def carF (nm:Addr) (c:Car):List (Str×V):=[("name", .ref nm),("comes", .int c.from_),("leaves", .int c.to_),("need", .int c.need),("rate", .int c.rate)]
def dayF (nm sp pr cs:Addr):List (Str×V):=[("name", .ref nm),("supplies", .ref sp),("prices", .ref pr),("cars", .ref cs)]
theorem zSW {nm:Addr}{c:Car}:(carF nm c).lookup ("name" : Str)=some (.ref nm):=rfl
theorem zQ2 {nm:Addr}{c:Car}:(carF nm c).lookup ("comes" : Str)=some (.int c.from_):=rfl
theorem zRK {nm:Addr}{c:Car}:(carF nm c).lookup ("leaves" : Str)=some (.int c.to_):=rfl
theorem z07 {nm:Addr}{c:Car}:(carF nm c).lookup ("need" : Str)=some (.int c.need):=rfl
theorem z0k {nm:Addr}{c:Car}:(carF nm c).lookup ("rate" : Str)=some (.int c.rate):=rfl
theorem zS2 {nm sp pr cs:Addr}:(dayF nm sp pr cs).lookup ("name" : Str)=some (.ref nm):=rfl
theorem zWD {nm sp pr cs:Addr}:(dayF nm sp pr cs).lookup ("supplies" : Str)=some (.ref sp):=rfl
theorem zV7 {nm sp pr cs:Addr}:(dayF nm sp pr cs).lookup ("prices" : Str)=some (.ref pr):=rfl
theorem zV3 {nm sp pr cs:Addr}:(dayF nm sp pr cs).lookup ("cars" : Str)=some (.ref cs):=rfl
section
variable (t:Adr)
def zZe (H:Hp) (a:Addr) (c:Car):Prop:=∃dx nm,H a=some (.ins t.CC dx (carF nm c))∧IL H nm (zb c.name)
def zZB (H:Hp) (a:Addr) (cars:List Car):Prop:=∃as,RefL H a as∧All2 (zZe t H) as cars
def DayR (H:Hp) (a:Addr) (d:Day):Prop:=∃dx nm sp pr cs,H a=some (.ins t.CD dx (dayF nm sp pr cs))∧IL H nm (zb d.name)∧IL H sp (zn d.supply)∧IL H pr (zn d.price)∧zZB t H cs d.cars
end
def z0s (H:Hp) (a:Addr) (Z:List (List Addr)):Prop:=∃ps,RefL H a ps∧All2 (fun p S=>RefL H p S) ps Z
section
variable {t:Adr}{H H':Hp}{a:Addr}
theorem IL.sm {ns:List Int} (h:IL H a ns) (S:Sm (Ts t) H H'):IL H' a ns:=S.keep _ _ h yR
theorem RefL.sm {as:List Addr} (h:RefL H a as) (S:Sm (Ts t) H H'):RefL H' a as:=S.keep _ _ h yR
theorem zZe.sm {c:Car} (h:zZe t H a c) (S:Sm (Ts t) H H'):zZe t H' a c:=by
 obtain ⟨dx,nm,h1,h2⟩:=h
 exact ⟨dx,nm,S.keep _ _ h1 z0,h2.sm S⟩
theorem wZ {as:List Addr}{cars:List Car} (h:All2 (zZe t H) as cars) (S:Sm (Ts t) H H'):All2 (zZe t H') as cars:=h.imp fun _ _ r=>r.sm S
theorem zZB.sm {cars:List Car} (h:zZB t H a cars) (S:Sm (Ts t) H H'):zZB t H' a cars:=by
 obtain ⟨as,h1,h2⟩:=h
 exact ⟨as,h1.sm S,wZ h2 S⟩
theorem DayR.sm {d:Day} (h:DayR t H a d) (S:Sm (Ts t) H H'):DayR t H' a d:=by
 obtain ⟨dx,nm,sp,pr,cs,h1,h2,h3,h4,h5⟩:=h
 exact ⟨dx,nm,sp,pr,cs,S.keep _ _ h1 z0,h2.sm S,h3.sm S,h4.sm S,h5.sm S⟩
theorem z0s.sm {Z:List (List Addr)} (h:z0s H a Z) (S:Sm (Ts t) H H'):z0s H' a Z:=by
 obtain ⟨ps,h1,h2⟩:=h
 exact ⟨ps,h1.sm S,h2.imp fun _ _ r=>r.sm S⟩
end
section
variable (t:Adr) (H:Hp) (Q:VK)
abbrev RI (i:Int):Prop:=∀H',Sm (Ts t) H H'→Q (.int i) H'
abbrev RB (b:Bool):Prop:=∀H',Sm (Ts t) H H'→Q (.bl b) H'
abbrev RZ (ns:List Int):Prop:=∀a H',Sm (Ts t) H H'→H a=none→IL H' a ns→Q (.ref a) H'
end
end Cc
namespace Tp
open PySem PySem.Spec PyProof.Rows L2 PySem.W Cc
abbrev pw:Program:=PySem.Challenge.pw_chargingcars_s01_answers
def en (P:Params) (x:Str) (t:Nat) (v:Value):DictEntry:={ hash:=PyData.keyHash P x,key:=.str x t,val:=v }
def dO (es:List DictEntry) (n:Nat):Obj:={ cls:=.type "dict", data:=.dict es.toArray n }
def uO (xs:List Value):Obj:={ cls:=.type "tuple", data:=.seq xs.toArray }
def oF (c:Value) (vs:List Value):Obj:={ cls:=c,data:=.fields vs.toArray }
def fO (x q:Str) (st:Stmt) (m:Value) (c:Addr):Obj:={ cls:=.type "function", data:=.func (fnOf x q (wY st) (vY st) (zU st) .none .none .none m none (.ref c) .none) }
def hO (x q:Str) (st:Stmt):Obj:={ cls:=.none,data:=.func { name:=x,qualname:=q,params:=wY st,body:=.stmts (vY st),scope:=zU st,globals:=0,closure:=[],defaults:=.none,kwdefaults:=.none } }
def cO (x q:Str) (t l n f:Nat) (v:Addr) (i:Bool) (p:Addr) (a b d:Value) (j:Nat):Obj:=oF (.type "code") [.str x t,.str q (t+1),.str "/claim/cut.py" (t+2),.int l 0,.int n 0,.int 0 0,.int 0 0,.int f 0,.ref v,.bool i,.int 181 0,.ref p,.none,a,b,d,.int j 0,.int l 0,.str "/claim/cut.py" (j+1)]
def tO (a:Addr) (x:Str) (ns t u:Nat):Obj:={ cls:=.type "type", data:=.cls { name:=x,bases:=[.type "object"],mro:=[.ref a,.type "object"],ns:=ns,qualname:=x },slots:=#[none,none,some (.str x t),some (.str x u),some (.builtin "object.__new__"),some (.bool true)] }
def rO (c g l:Addr) (m:Value):Obj:={ cls:=.type "frame", slots:=#[some (.ref c),some (.ref g),some (.ref l),none,some m,none,some (.ref 0)] }
def ccs (st:Stmt):List Str:=(zU st).names.filterMap fun p=>match p.2 with
 | .cell=>some p.1
 | _=>none
def lcs (st:Stmt):List Str:=(zU st).names.filterMap fun p=>match p.2 with
 | .local=>some p.1
 | .cell=>if (wY st).args.any (fun a=>a.arg == p.1) then some p.1 else none
 | _=>none
def tks:List Str→Nat→List Value
 | [],_=>[]
 | x::r,k=>.str x k::tks r (k+1)
def nks:List Expr→Nat→List Value
 | .Constant (.int i) _ _::r,k=>.int i k::nks r (k+1)
 | _,_=>[]
def lnOf (st:Stmt):Nat:=st.pos.line
def dG (x q:Str) (st:Stmt) (b:Bool) (a k:Nat) (m:Value):List Obj:=match b with
 | true=>[uO [],oF .none [],uO (tks (lcs st) (k+3)),uO (tks (ccs st) (k+3+(lcs st).length)),hO x q st,cO x q k (lnOf st) (wY st).args.length 3 a true (a+1) (.ref (a+2)) (.ref (a+3)) (.ref (a+4)) (k+3+(lcs st).length+(ccs st).length),fO x q st m (a+5)]
 | false=>[uO [],oF .none [],hO x q st,cO x q k (lnOf st) (wY st).args.length 3 a true (a+1) .none .none (.ref (a+2)) (k+3),fO x q st m (a+3)]
def cG (P:Params) (x q:Str) (l:Nat) (st:Stmt) (at_:List Str) (a k:Nat) (m:Value) (n u:Nat):List Obj:=
 [uO [],oF (.type "builtin_function_or_method") [.builtin "type.__prepare__", .type "type"],
   dO [en P "__module__" (k+7) m,en P "__qualname__" (k+9) (.str x (k+8)),en P "__firstlineno__" (k+11) (.int l (k+10)),en P "__init__" (k+17+n) (.ref (a+13)),en P "__static_attributes__" u (.ref (a+14))] 5,
   uO [],oF .none [.int (lnOf st) 0,.int 4 0,.ref (a+12)],cO x x (k+2) l 0 0 (a+3) false (a+4) .none .none .none (k+5),rO (a+5) 3 (a+2) m]++dG "__init__" q st true (a+7) (k+12) m ++
 [uO (tks at_ (k+18+n)),dO [en P "__module__" (k+7) m,en P "__firstlineno__" (k+11) (.int l (k+10)),en P "__init__" (k+17+n) (.ref (a+13)),en P "__static_attributes__" u (.ref (a+14)),en P "__dict__" (u+2) (.ref (a+17)),en P "__weakref__" (u+4) (.ref (a+18)),en P "__doc__" (u+5) .none] 4,
   tO (a+16) x (a+15) k (k+8),oF (.type "getset_descriptor") [.str "__dict__" (u+1),.ref (a+16),.builtin "function.__dict__", .builtin "function.__dict__#set"],oF (.type "getset_descriptor") [.str "__weakref__" (u+3),.ref (a+16),.builtin "ExceptionGroup.__weakref__", .none],
   oF (.type "super") [.ref (a+16),.ref (a+16),.ref (a+16)],oF (.type "builtin_function_or_method") [.builtin "object.__init_subclass__", .ref (a+16)]]
structure Bd where
 a:Nat
 k:Nat
 m:Value
 o:List Obj
 e:List DictEntry
 t:List Value
def stB (P:Params) (b:Bool) (s:Bd) (st:Stmt):Bd:=match st with
 | .Assign [.Name x _] (.Constant (.int i) _ _) _=>{ s with k:=s.k+2,e:=s.e++[en P x (s.k+1) (.int i s.k)] }
 | .Assign [.Name x _] (.UnaryOp _ (.Constant (.int i) _ _) _) _=>{ s with k:=s.k+3,e:=s.e++[en P x (s.k+2) (.int (-i) (s.k+1))] }
 | .Assign [.Name _ _] (.Constant (.str y) _ _) _=>{ s with k:=s.k+2,m:=.str y s.k }
 | .Assign [.Name x _] (.Tuple es _ _) _=>{ s with a:=s.a+1,k:=s.k+es.length+1,o:=s.o++[uO (nks es s.k)],e:=s.e++[en P x (s.k+es.length) (.ref s.a)] }
 | .FunctionDef x _ _ _ _ _ _ _ _ p=>match b with
  | true=>{ s with a:=s.a+7,k:=s.k+6+(lcs st).length+(ccs st).length,o:=s.o++dG x x st true s.a s.k s.m,e:=s.e++[en P x (s.k+5+(lcs st).length+(ccs st).length) (.ref (s.a+6))],t:=s.t++[.int p.line 0,.int p.col 0,.ref (s.a+5)] }
  | false=>{ s with a:=s.a+5,k:=s.k+6,o:=s.o++dG x x st false s.a s.k s.m,e:=s.e++[en P x (s.k+5) (.ref (s.a+4))],t:=s.t++[.int p.line 0,.int p.col 0,.ref (s.a+3)] }
 | .ClassDef x _ _ _ _ _ _ _ _ at_ p=>{ s with a:=s.a+21,k:=s.k+18+(lcs (inClass st 0)).length+at_.length+8,o:=s.o++cG P x (x ++ ".__init__") p.line (inClass st 0) at_ s.a s.k s.m (lcs (inClass st 0)).length (s.k+18+(lcs (inClass st 0)).length+at_.length),e:=s.e++[en P x (s.k+25+(lcs (inClass st 0)).length+at_.length) (.ref (s.a+16))],t:=s.t++[.int p.line 0,.int p.col 0,.ref (s.a+5)] }
 | _=>s
def nfl:List Nat:=[14,15,16,17,18,20,21,37,41,42,58,61,62,67,73,92,94,97,99,100,101,102,106,108]
def bdB (P:Params) (s:Bd):List Nat→Bd
 | []=>s
 | i::r=>bdB P (stB P (!nfl.contains i) s (top i)) r
def mnO (P:Params) (s:Bd):Obj:=dO ([en P "__name__" 165 s.m,en P "__doc__" 166 .none,en P "__package__" 167 .none,en P "__loader__" 168 (.builtin "__main__.__loader__#opaque"),en P "__spec__" 169 .none,en P "__annotations__" 170 (.ref 6),en P "__builtins__" 171 (.ref 4),en P "__file__" 173 (.str "/claim/cut.py" 172),en P "__cached__" 174 .none]++s.e) (9+s.e.length)
def prO (s:Bd):List Obj:=[uO [],oF .none s.t,oF (.type "code") [.str "<module>" 182,.str "<module>" 183,.str "/claim/cut.py" 184,.int 1 0,.int 0 0,.int 0 0,.int 0 0,.int 0 0,.ref 11,.bool false,.int 181 0,.ref 12,.none,.none,.none,.none,.int 185 0,.int 1 0,.str "/claim/cut.py" 186],rO 13 3 3 (.str "__main__" 164)]++s.o
noncomputable def heB (P:Params) (s:Bd):Heap:=⟨((boot_heap P).objs.toList.take 3++mnO P s::((boot_heap P).objs.toList.drop 4++prO s)).toArray,{}⟩
def b0:Bd:=⟨15,187,.str "__main__" 164,[],[],[]⟩
def env:Env:={ scope:=pw.main.scope,locals:=mainNs,globals:=mainNs,cells:=[],code:=.ref 13,frame:=some 14 }
abbrev cd:Code:=.body (behindTheImports pw) env
noncomputable def sh (w:World) (os:OsState) (s:Bd):Shared:=⟨heB w.params s,#[],boot_drawn,s.k,os⟩
end Tp
set_option maxHeartbeats 0
namespace Tp
open PySem PySem.Spec PyProof.Rows L2 PySem.W Cc
def l1:List Stmt:=top 0::top 1::top 2::top 3::top 4::top 5::top 6::top 7::[]
def g1 (P:Params):Bd:=bdB P b0 [0,1,2,3,4,5,6,7]
def l2:List Stmt:=top 8::top 9::top 10::[]
def g2 (P:Params):Bd:=bdB P (g1 P) [8,9,10]
def l3:List Stmt:=top 11::top 12::top 13::top 14::top 15::top 16::top 17::top 18::top 19::top 20::top 21::[]
def g3 (P:Params):Bd:=bdB P (g2 P) [11,12,13,14,15,16,17,18,19,20,21]
def l4:List Stmt:=top 22::top 23::top 24::top 25::top 26::top 27::top 28::top 29::top 30::top 31::top 32::top 33::top 34::top 35::top 36::top 37::top 38::[]
def g4 (P:Params):Bd:=bdB P (g3 P) [22,23,24,25,26,27,28,29,30,31,32,33,34,35,36,37,38]
def l5:List Stmt:=top 39::top 40::top 41::top 42::top 43::top 44::top 45::top 46::top 47::top 48::[]
def g5 (P:Params):Bd:=bdB P (g4 P) [39,40,41,42,43,44,45,46,47,48]
def l6:List Stmt:=top 49::top 50::top 51::top 52::top 53::top 54::top 55::top 56::top 57::top 58::[]
def g6 (P:Params):Bd:=bdB P (g5 P) [49,50,51,52,53,54,55,56,57,58]
def l7:List Stmt:=top 59::top 60::top 61::top 62::top 63::top 64::top 65::top 66::top 67::top 68::[]
def g7 (P:Params):Bd:=bdB P (g6 P) [59,60,61,62,63,64,65,66,67,68]
def l8:List Stmt:=top 69::top 70::top 71::top 72::top 73::top 74::top 75::top 76::top 77::top 78::top 79::top 80::top 81::[]
def g8 (P:Params):Bd:=bdB P (g7 P) [69,70,71,72,73,74,75,76,77,78,79,80,81]
def l9:List Stmt:=top 82::top 83::top 84::top 85::top 86::top 87::top 88::top 89::top 90::top 91::top 92::top 93::top 94::top 95::top 96::[]
def g9 (P:Params):Bd:=bdB P (g8 P) [82,83,84,85,86,87,88,89,90,91,92,93,94,95,96]
def l10:List Stmt:=top 97::top 98::top 99::top 100::top 101::top 102::top 103::top 104::top 105::top 106::top 107::[]
def g10 (P:Params):Bd:=bdB P (g9 P) [97,98,99,100,101,102,103,104,105,106,107]
def l11:List Stmt:=top 108::top 109::top 110::top 111::top 112::top 113::top 114::top 115::top 116::top 117::top 118::top 119::top 120::top 121::top 122::top 123::top 124::top 125::top 126::top 127::top 128::top 129::top 130::top 131::[]
def g11 (P:Params):Bd:=bdB P (g10 P) [108,109,110,111,112,113,114,115,116,117,118,119,120,121,122,123,124,125,126,127,128,129,130,131]
def l12:List Stmt:=top 132::top 133::top 134::top 135::[]
def g12 (P:Params):Bd:=bdB P (g11 P) [132,133,134,135]
def l13:List Stmt:=top 136::top 137::top 138::top 139::top 140::top 141::top 142::[]
def g13 (P:Params):Bd:=bdB P (g12 P) [136,137,138,139,140,141,142]
theorem p1 (w:World) (os:OsState):segRun treeTable pw w 11 (some (.ref 6)) 1 294 (sh w os b0) (piecesOf l1 env cd ⟨0,0,0,0⟩ [topFrame ⟨0,0,0,0⟩])=some (.next,sh w os (g1 w.params),cd,⟨8,0,15,24⟩):=by kernel_rfl
theorem p2 (w:World) (os:OsState):segRun treeTable pw w 11 (some (.ref 6)) 1 290 (sh w os (g1 w.params)) (piecesOf l2 env cd ⟨8,0,15,24⟩ [topFrame ⟨0,0,0,0⟩])=some (.next,sh w os (g2 w.params),cd,⟨25,0,26,66⟩):=by kernel_rfl
theorem p3 (w:World) (os:OsState):segRun treeTable pw w 11 (some (.ref 6)) 1 283 (sh w os (g2 w.params)) (piecesOf l3 env cd ⟨25,0,26,66⟩ [topFrame ⟨0,0,0,0⟩])=some (.next,sh w os (g3 w.params),cd,⟨55,0,56,68⟩):=by kernel_rfl
theorem p4 (w:World) (os:OsState):segRun treeTable pw w 11 (some (.ref 6)) 1 293 (sh w os (g3 w.params)) (piecesOf l4 env cd ⟨55,0,56,68⟩ [topFrame ⟨0,0,0,0⟩])=some (.next,sh w os (g4 w.params),cd,⟨77,0,87,16⟩):=by kernel_rfl
theorem p5 (w:World) (os:OsState):segRun treeTable pw w 11 (some (.ref 6)) 1 275 (sh w os (g4 w.params)) (piecesOf l5 env cd ⟨77,0,87,16⟩ [topFrame ⟨0,0,0,0⟩])=some (.next,sh w os (g5 w.params),cd,⟨118,0,126,29⟩):=by kernel_rfl
theorem p6 (w:World) (os:OsState):segRun treeTable pw w 11 (some (.ref 6)) 1 290 (sh w os (g5 w.params)) (piecesOf l6 env cd ⟨118,0,126,29⟩ [topFrame ⟨0,0,0,0⟩])=some (.next,sh w os (g6 w.params),cd,⟨168,0,169,68⟩):=by kernel_rfl
theorem p7 (w:World) (os:OsState):segRun treeTable pw w 11 (some (.ref 6)) 1 272 (sh w os (g6 w.params)) (piecesOf l7 env cd ⟨168,0,169,68⟩ [topFrame ⟨0,0,0,0⟩])=some (.next,sh w os (g7 w.params),cd,⟨196,0,201,16⟩):=by kernel_rfl
theorem p8 (w:World) (os:OsState):segRun treeTable pw w 11 (some (.ref 6)) 1 296 (sh w os (g7 w.params)) (piecesOf l8 env cd ⟨196,0,201,16⟩ [topFrame ⟨0,0,0,0⟩])=some (.next,sh w os (g8 w.params),cd,⟨244,0,249,13⟩):=by kernel_rfl
theorem p9 (w:World) (os:OsState):segRun treeTable pw w 11 (some (.ref 6)) 1 278 (sh w os (g8 w.params)) (piecesOf l9 env cd ⟨244,0,249,13⟩ [topFrame ⟨0,0,0,0⟩])=some (.next,sh w os (g9 w.params),cd,⟨294,0,299,19⟩):=by kernel_rfl
theorem p10 (w:World) (os:OsState):segRun treeTable pw w 11 (some (.ref 6)) 1 285 (sh w os (g9 w.params)) (piecesOf l10 env cd ⟨294,0,299,19⟩ [topFrame ⟨0,0,0,0⟩])=some (.next,sh w os (g10 w.params),cd,⟨355,0,356,70⟩):=by kernel_rfl
theorem p11 (w:World) (os:OsState):segRun treeTable pw w 11 (some (.ref 6)) 1 299 (sh w os (g10 w.params)) (piecesOf l11 env cd ⟨355,0,356,70⟩ [topFrame ⟨0,0,0,0⟩])=some (.next,sh w os (g11 w.params),cd,⟨395,0,395,7⟩):=by kernel_rfl
theorem p12 (w:World) (os:OsState):segRun treeTable pw w 11 (some (.ref 6)) 1 298 (sh w os (g11 w.params)) (piecesOf l12 env cd ⟨395,0,395,7⟩ [topFrame ⟨0,0,0,0⟩])=some (.next,sh w os (g12 w.params),cd,⟨402,0,418,15⟩):=by kernel_rfl
theorem p13 (w:World) (os:OsState):segRun treeTable pw w 11 (some (.ref 6)) 1 221 (sh w os (g12 w.params)) (piecesOf l13 env cd ⟨402,0,418,15⟩ [topFrame ⟨0,0,0,0⟩])=some (.next,sh w os (g13 w.params),cd,⟨481,0,488,33⟩):=by kernel_rfl
theorem pA (w:World) (os:OsState):topGo treeTable pw w 11 (some (.ref 6)) 12 ⟨boot_heap w.params,Array.mk [],boot_drawn,boot_toks,os⟩ (topStub pw)=some (sh w os b0,⟨denote treeTable cd,cd,⟨0,0,0,0⟩,[topFrame ⟨0,0,0,0⟩]⟩):=by kernel_rfl
theorem pB (w:World) (os:OsState):segRun treeTable pw w 11 (some (.ref 6)) 1 1 (sh w os b0) (blockOf (behindTheImports pw) env cd ⟨0,0,0,0⟩ [topFrame ⟨0,0,0,0⟩])=some (.next,sh w os b0,cd,⟨0,0,0,0⟩):=by kernel_rfl
theorem pZ (w:World) (os:OsState):topRun treeTable pw w 11 (some (.ref 6)) 2 (sh w os (g13 w.params)) ⟨doneF .next,cd,⟨481,0,488,33⟩,[topFrame ⟨0,0,0,0⟩]⟩=some (sh w os (g13 w.params)):=by kernel_rfl
theorem pL:behindTheImports pw=l1++(l2++(l3++(l4++(l5++(l6++(l7++(l8++(l9++(l10++(l11++(l12++(l13++[])))))))))))):=by kernel_rfl
theorem pR (w:World) (os:OsState):topRun treeTable pw w 11 (some (.ref 6)) (12+(1+(294+(290+(283+(293+(275+(290+(272+(296+(278+(285+(299+(298+(221+(2)))))))))))))))) ⟨boot_heap w.params,Array.mk [],boot_drawn,boot_toks,os⟩ (topStub pw)=some (sh w os (g13 w.params)):=by
 have k:=piece_app (p1 w os) (piece_app (p2 w os) (piece_app (p3 w os) (piece_app (p4 w os) (piece_app (p5 w os) (piece_app (p6 w os) (piece_app (p7 w os) (piece_app (p8 w os) (piece_app (p9 w os) (piece_app (p10 w os) (piece_app (p11 w os) (piece_app (p12 w os) (piece_app (p13 w os) (piece_nil (pZ w os))))))))))))))
 rw [←pL] at k
 exact go_top (pA w os) (piece_block (pB w os) k)
theorem pO:∀w:World,(fencedOpening treeTable pw w 7448).map (fun s=>(s.heap,s.gens,s.drawn,s.toks))=some (boot_heap w.params,Array.mk [],boot_drawn,boot_toks):=boot_open (by kernel_rfl) (by decide) fun _=>rfl
theorem pS (w:World):((boot_heap w.params).isNs mainGlobals && (Array.mk []:Array GenState).size == 0,(boot_heap w.params).objs.size,(boot_heap w.params).nsMap mainGlobals "__annotations__")=(true,11,some (.ref 6)):=by kernel_rfl
open PySem PySem.Spec PyProof.Rows L2 PySem.W Cc
def nmS (st:Stmt):Str:=match st with
 | .FunctionDef x _ _ _ _ _ _ _ _ _=>x
 | _=>""
def cT (st:Stmt) (a k:Nat):Obj:=cO (nmS st) (nmS st) k (lnOf st) (wY st).args.length 3 a true (a+1) (.ref (a+2)) (.ref (a+3)) (.ref (a+4)) (k+3+(lcs st).length+(ccs st).length)
def cN (st:Stmt) (a k:Nat):Obj:=cO (nmS st) (nmS st) k (lnOf st) (wY st).args.length 3 a true (a+1) .none .none (.ref (a+2)) (k+3)
def fT (st:Stmt) (m:Value) (c:Addr):Obj:=fO (nmS st) (nmS st) st m c
def er (P:Params) (x:Str) (t r:Nat):DictEntry:=en P x t (.ref r)
def ei (P:Params) (x:Str) (t:Nat) (i:Int):DictEntry:=en P x t (.int i (t-1))
def m1:Value:=.str "chargingcars.days" 187
def m2:Value:=.str "chargingcars.carsets" 307
def m3:Value:=.str "chargingcars.words" 404
def m4:Value:=.str "chargingcars.changes" 491
def m5:Value:=.str "chargingcars.plans" 548
def m6:Value:=.str "chargingcars.margins" 627
def m7:Value:=.str "chargingcars.proofs" 683
def m8:Value:=.str "chargingcars.judging" 721
def m9:Value:=.str "chargingcars.texts" 767
def m10:Value:=.str "chargingcars.tellings" 858
def m11:Value:=.str "chargingcars.parks" 912
noncomputable def KK (P:Params):PySem.W.Frag:=
 (nat_lit 3,dO (en P "__name__" 165 (.str "chargingcars.parks" 912)::en P "__doc__" 166 .none::en P "__package__" 167 .none::en P "__loader__" 168 (.builtin "__main__.__loader__#opaque")::en P "__spec__" 169 .none::er P "__annotations__" 170 6::er P "__builtins__" 171 4::en P "__file__" 173 (.str "/claim/cut.py" 172)::en P "__cached__" 174 .none::ei P "MOST_SLOTS" 190 12::ei P "MOST_CARS" 192 6::ei P "MOST_SUPPLY" 194 60::ei P "MOST_PRICE" 196 999::ei P "MOST_NEED" 198 99::ei P "MOST_RATE" 200 20::er P "Car" 237 31::er P "Day" 272 52::er P "stay_fits" 281 63::er P "need_and_rate_fit" 289 70::er P "can_take" 297 77::er P "place_of" 306 84::er P "all_sets" 314 89::er P "counted_members" 320 94::er P "wants" 326 99::er P "gets" 332 104::er P "room" 338 109::er P "too_much" 346 116::er P "wanted_there" 352 121::er P "excesses" 358 126::er P "worst_excess" 366 133::er P "all_filled" 374 140::er P "worst_set" 382 147::ei P "OUT_OF_BOUNDS" 385 (-1)::ei P "TOO_LONG" 388 (-2)::ei P "NO_DAY" 391 (-3)::ei P "NO_SUCH" 394 (-4)::ei P "NOT_FILLED" 397 (-5)::ei P "FAULT" 400 (-6)::ei P "SIX_CARS" 403 (-7)::ei P "LINE_END" 407 10::ei P "BLANK" 409 32::ei P "MOST_NAME_BYTES" 411 12::ei P "MOST_DIGITS" 413 9::er P "signs" 419 152::er P "parts" 430 159::er P "is_digit" 437 166::er P "is_letter" 444 173::er P "is_name" 450 178::er P "is_number" 456 183::er P "number_of" 465 190::er P "is_number_within" 474 197::er P "digits" 481 204::er P "line_of" 490 211::er P "put_car" 503 218::er P "could_stand" 511 225::er P "take_away" 519 232::er P "set_supply" 528 239::er P "set_price" 537 246::er P "set_in_slot" 547 253::er P "dearest_first" 557 260::er P "told_loads" 567 267::er P "told_plan" 583 274::er P "cost_of" 589 279::er P "least_cost" 596 286::er P "cost_and_plan" 604 293::er P "rows_of" 610 298::er P "loads_of" 616 303::er P "taken_and_left" 626 310::er P "spared" 636 317::er P "gained" 645 324::er P "needed_more" 651 329::er P "come_late" 661 336::er P "filled_if_late" 672 343::er P "refused_set" 682 350::er P "prices_but_least" 691 357::er P "cheaper_supplies" 697 362::er P "told_proof" 708 369::er P "proven_cost" 720 376::ei P "MORE_THAN_IT_CAN" 724 1::ei P "NOT_ITS_NEED" 726 2::ei P "MORE_THAN_THERE_IS" 728 3::er P "wrong_of" 737 383::er P "more_than_it_can" 747 390::er P "not_its_need" 756 397::er P "more_than_there_is" 766 404::ei P "FIRST_CAR_LINE" 770 3::ei P "NO_FAULT" 772 0::ei P "NO_SUCH_LINE" 774 1::ei P "OTHER_COUNT" 776 2::ei P "NO_STAY" 778 3::ei P "NAME_AGAIN" 780 4::ei P "CAR_TOO_MANY" 782 5::er P "lines_of" 788 409::er P "first_fault" 797 416::er P "kind_of_fault" 803 421::er P "fault_behind_last" 811 428::er P "fault_of_first" 818 435::er P "fault_of_row" 824 440::er P "fault_of_car" 833 447::er P "is_car_line" 839 452::er P "day_of" 845 457::er P "car_of" 851 462::er P "text_of" 857 467::er P "tell_text" 866 474::er P "tell_can" 874 481::er P "tell_asks" 880 486::er P "tell_most" 887 493::er P "tell_proves" 893 498::er P "tell_judge" 904 505::er P "tell_refuse" 911 512::ei P "LOAD" 915 0::ei P "CAR" 917 1::ei P "GONE" 919 2::ei P "SUPPLY" 921 3::ei P "PRICE" 923 4::ei P "TEXT" 925 5::ei P "CAN" 927 6::ei P "ASKS" 929 7::ei P "MOST" 931 8::ei P "PLAN" 933 9::ei P "LOADS" 935 10::ei P "PROOF" 937 11::ei P "PROVES" 939 12::ei P "JUDGE" 941 13::ei P "SPARE" 943 15::ei P "GAIN" 945 16::ei P "MORE" 947 17::ei P "LATE" 949 18::ei P "NOW" 951 19::er P "NUMBERS" 972 513::er P "ROWS" 993 514::ei P "MOST_BYTES" 995 2048::er P "Park" 1023 531::er P "answers" 1038 542::er P "answer_of" 1048 549::er P "load" 1058 556::er P "answer_of_change" 1068 563::er P "answer_of_telling" 1077 570::er P "answer_of_plan" 1085 577::er P "answer_of_one" 1095 584::er P "margin_of" 1104 591::[]) 141) ::
 (nat_lit 27,cO "__init__" "Car.__init__" 213 10 6 3 22 true 23 (.ref 24) (.ref 25) (.ref 26) 222) ::
 (nat_lit 28,fO "__init__" "Car.__init__" zWP m1 27) ::
 (nat_lit 30,dO [en P "__module__" 208 (.str "chargingcars.days" 187),en P "__firstlineno__" 212 (.int 8 211),en P "__init__" 224 (.ref 28),en P "__static_attributes__" 230 (.ref 29),en P "__dict__" 232 (.ref 32),en P "__weakref__" 234 (.ref 33),en P "__doc__" 235 .none] 4) ::
 (nat_lit 31,tO 31 "Car" 30 201 209) ::
 (nat_lit 48,cO "__init__" "Day.__init__" 250 18 5 3 43 true 44 (.ref 45) (.ref 46) (.ref 47) 258) ::
 (nat_lit 49,fO "__init__" "Day.__init__" zWO m1 48) ::
 (nat_lit 51,dO [en P "__module__" 245 (.str "chargingcars.days" 187),en P "__firstlineno__" 249 (.int 16 248),en P "__init__" 260 (.ref 49),en P "__static_attributes__" 265 (.ref 50),en P "__dict__" 267 (.ref 53),en P "__weakref__" 269 (.ref 54),en P "__doc__" 270 .none] 4) ::
 (nat_lit 52,tO 52 "Day" 51 238 246) ::
 (nat_lit 62,cT zZ8 57 273) ::
 (nat_lit 63,fT zZ8 m1 62) ::
 (nat_lit 69,cT wW 64 282) ::
 (nat_lit 70,fT wW m1 69) ::
 (nat_lit 76,cT zXb 71 290) ::
 (nat_lit 77,fT zXb m1 76) ::
 (nat_lit 83,cT zY7 78 298) ::
 (nat_lit 84,fT zY7 m1 83) ::
 (nat_lit 88,cN zXl 85 309) ::
 (nat_lit 89,fT zXl m2 88) ::
 (nat_lit 93,cN uX 90 315) ::
 (nat_lit 94,fT uX m2 93) ::
 (nat_lit 98,cN zTw 95 321) ::
 (nat_lit 99,fT zTw m2 98) ::
 (nat_lit 103,cN zRW 100 327) ::
 (nat_lit 104,fT zRW m2 103) ::
 (nat_lit 108,cN zR2 105 333) ::
 (nat_lit 109,fT zR2 m2 108) ::
 (nat_lit 115,cT zXk 110 339) ::
 (nat_lit 116,fT zXk m2 115) ::
 (nat_lit 120,cN kY 117 347) ::
 (nat_lit 121,fT kY m2 120) ::
 (nat_lit 125,cN zY6 122 353) ::
 (nat_lit 126,fT zY6 m2 125) ::
 (nat_lit 132,cT j5 127 359) ::
 (nat_lit 133,fT j5 m2 132) ::
 (nat_lit 139,cT zZO 134 367) ::
 (nat_lit 140,fT zZO m2 139) ::
 (nat_lit 146,cT zYc 141 375) ::
 (nat_lit 147,fT zYc m2 146) ::
 (nat_lit 151,cN zTM 148 414) ::
 (nat_lit 152,fT zTM m3 151) ::
 (nat_lit 158,cT zTN 153 420) ::
 (nat_lit 159,fT zTN m3 158) ::
 (nat_lit 165,cT zXa 160 431) ::
 (nat_lit 166,fT zXa m3 165) ::
 (nat_lit 172,cT zYr 167 438) ::
 (nat_lit 173,fT zYr m3 172) ::
 (nat_lit 177,cN zXZ 174 445) ::
 (nat_lit 178,fT zXZ m3 177) ::
 (nat_lit 182,cN zYt 179 451) ::
 (nat_lit 183,fT zYt m3 182) ::
 (nat_lit 189,cT zYu 184 457) ::
 (nat_lit 190,fT zYu m3 189) ::
 (nat_lit 196,cT vT 191 466) ::
 (nat_lit 197,fT vT m3 196) ::
 (nat_lit 203,cT zVK 198 475) ::
 (nat_lit 204,fT zVK m3 203) ::
 (nat_lit 210,cT zWa 205 482) ::
 (nat_lit 211,fT zWa m3 210) ::
 (nat_lit 217,cT zWE 212 493) ::
 (nat_lit 218,fT zWE m4 217) ::
 (nat_lit 224,cT zZh 219 504) ::
 (nat_lit 225,fT zZh m4 224) ::
 (nat_lit 231,cT zYn 226 512) ::
 (nat_lit 232,fT zYn m4 231) ::
 (nat_lit 238,cT zZQ 233 520) ::
 (nat_lit 239,fT zZQ m4 238) ::
 (nat_lit 245,cT zYp 240 529) ::
 (nat_lit 246,fT zYp m4 245) ::
 (nat_lit 252,cT zZa 247 538) ::
 (nat_lit 253,fT zZa m4 252) ::
 (nat_lit 259,cT vQ 254 550) ::
 (nat_lit 260,fT vQ m5 259) ::
 (nat_lit 266,cT zZP 261 558) ::
 (nat_lit 267,fT zZP m5 266) ::
 (nat_lit 273,cT zYe 268 568) ::
 (nat_lit 274,fT zYe m5 273) ::
 (nat_lit 278,cN zX2 275 584) ::
 (nat_lit 279,fT zX2 m5 278) ::
 (nat_lit 285,cT zZI 280 590) ::
 (nat_lit 286,fT zZI m5 285) ::
 (nat_lit 292,cT jT 287 597) ::
 (nat_lit 293,fT jT m5 292) ::
 (nat_lit 297,cN zWl 294 605) ::
 (nat_lit 298,fT zWl m5 297) ::
 (nat_lit 302,cN zY3 299 611) ::
 (nat_lit 303,fT zY3 m5 302) ::
 (nat_lit 309,cT u0 304 617) ::
 (nat_lit 310,fT u0 m5 309) ::
 (nat_lit 316,cT zVG 311 629) ::
 (nat_lit 317,fT zVG m6 316) ::
 (nat_lit 323,cT zVI 318 637) ::
 (nat_lit 324,fT zVI m6 323) ::
 (nat_lit 328,cN zZb 325 646) ::
 (nat_lit 329,fT zZb m6 328) ::
 (nat_lit 335,cT zYd 330 652) ::
 (nat_lit 336,fT zYd m6 335) ::
 (nat_lit 342,cT uP 337 662) ::
 (nat_lit 343,fT uP m6 342) ::
 (nat_lit 349,cT jR 344 673) ::
 (nat_lit 350,fT jR m6 349) ::
 (nat_lit 356,cT vW 351 685) ::
 (nat_lit 357,fT vW m7 356) ::
 (nat_lit 361,cN vV 358 692) ::
 (nat_lit 362,fT vV m7 361) ::
 (nat_lit 368,cT zZM 363 698) ::
 (nat_lit 369,fT zZM m7 368) ::
 (nat_lit 375,cT qO 370 709) ::
 (nat_lit 376,fT qO m7 375) ::
 (nat_lit 382,cT zY8 377 729) ::
 (nat_lit 383,fT zY8 m8 382) ::
 (nat_lit 389,cT vS 384 738) ::
 (nat_lit 390,fT vS m8 389) ::
 (nat_lit 396,cT kX 391 748) ::
 (nat_lit 397,fT kX m8 396) ::
 (nat_lit 403,cT x6 398 757) ::
 (nat_lit 404,fT x6 m8 403) ::
 (nat_lit 408,cN zY5 405 783) ::
 (nat_lit 409,fT zY5 m9 408) ::
 (nat_lit 415,cT zZd 410 789) ::
 (nat_lit 416,fT zZd m9 415) ::
 (nat_lit 420,cN jY 417 798) ::
 (nat_lit 421,fT jY m9 420) ::
 (nat_lit 427,cT wR 422 804) ::
 (nat_lit 428,fT wR m9 427) ::
 (nat_lit 434,cT u4 429 812) ::
 (nat_lit 435,fT u4 m9 434) ::
 (nat_lit 439,cN j6 436 819) ::
 (nat_lit 440,fT j6 m9 439) ::
 (nat_lit 446,cT j8 441 825) ::
 (nat_lit 447,fT j8 m9 446) ::
 (nat_lit 451,cN zZj 448 834) ::
 (nat_lit 452,fT zZj m9 451) ::
 (nat_lit 456,cN zVN 453 840) ::
 (nat_lit 457,fT zVN m9 456) ::
 (nat_lit 461,cN zVF 458 846) ::
 (nat_lit 462,fT zVF m9 461) ::
 (nat_lit 466,cN zWu 463 852) ::
 (nat_lit 467,fT zWu m9 466) ::
 (nat_lit 473,cT zYa 468 860) ::
 (nat_lit 474,fT zYa m10 473) ::
 (nat_lit 480,cT zXe 475 867) ::
 (nat_lit 481,fT zXe m10 480) ::
 (nat_lit 485,cN zYl 482 875) ::
 (nat_lit 486,fT zYl m10 485) ::
 (nat_lit 492,cT zYf 487 881) ::
 (nat_lit 493,fT zYf m10 492) ::
 (nat_lit 497,cN zZc 494 888) ::
 (nat_lit 498,fT zZc m10 497) ::
 (nat_lit 504,cT zZR 499 894) ::
 (nat_lit 505,fT zZR m10 504) ::
 (nat_lit 511,cT qP 506 905) ::
 (nat_lit 512,fT qP m10 511) ::
 (nat_lit 513,uO [.int 0 952,.int 4 953,.int 1 954,.int 2 955,.int 2 956,.int 0 957,.int 0 958,.int 0 959,.int 0 960,.int 0 961,.int 0 962,.int 0 963,.int 0 964,.int 0 965,.int 0 966,.int 1 967,.int 1 968,.int 1 969,.int 1 970,.int 1 971]) ::
 (nat_lit 514,uO [.int 1 973,.int 1 974,.int 0 975,.int 0 976,.int 0 977,.int 0 978,.int 0 979,.int 1 980,.int 0 981,.int 0 982,.int 0 983,.int 0 984,.int 1 985,.int 1 986,.int 0 987,.int 0 988,.int 0 989,.int 0 990,.int 0 991,.int 0 992]) ::
 (nat_lit 527,cO "__init__" "Park.__init__" 1008 400 1 3 522 true 523 (.ref 524) (.ref 525) (.ref 526) 1012) ::
 (nat_lit 528,fO "__init__" "Park.__init__" zXQ m11 527) ::
 (nat_lit 530,dO [en P "__module__" 1003 (.str "chargingcars.parks" 912),en P "__firstlineno__" 1007 (.int 398 1006),en P "__init__" 1014 (.ref 528),en P "__static_attributes__" 1016 (.ref 529),en P "__dict__" 1018 (.ref 532),en P "__weakref__" 1020 (.ref 533),en P "__doc__" 1021 .none] 4) ::
 (nat_lit 531,tO 531 "Park" 530 996 1004) ::
 (nat_lit 541,cT zWy 536 1024) ::
 (nat_lit 542,fT zWy m11 541) ::
 (nat_lit 548,cT zYq 543 1039) ::
 (nat_lit 549,fT zYq m11 548) ::
 (nat_lit 555,cT s_load 550 1049) ::
 (nat_lit 556,fT s_load m11 555) ::
 (nat_lit 562,cT vU 557 1059) ::
 (nat_lit 563,fT vU m11 562) ::
 (nat_lit 569,cT wV 564 1069) ::
 (nat_lit 570,fT wV m11 569) ::
 (nat_lit 576,cT u1 571 1078) ::
 (nat_lit 577,fT u1 m11 576) ::
 (nat_lit 583,cT jU 578 1086) ::
 (nat_lit 584,fT jU m11 583) ::
 (nat_lit 590,cT zYs 585 1096) ::
 (nat_lit 591,fT zYs m11 590)::[]
noncomputable def vq:Program:={ PySem.Challenge.rw_chargingcars_s01_answers.prog with main:={ PySem.Challenge.rw_chargingcars_s01_answers.prog.main with body:=[top 55,top 70,top 135] } }
def lo:List Str:=(pw.main.body.filterMap fun s=>match s with
 | .FunctionDef x _ _ _ _ _ _ _ _ _=>some x
 | .ClassDef x _ _ _ _ _ _ _ _ _ _=>some x
 | .Assign [.Name x _] _ _=>some x
 | _=>none).filter fun x=>!(["dearest_first", "refused_set", "answers", "__name__"]:List Str).contains x
def aK:List Addr:=3::27::28::30::31::48::49::51::52::62::63::69::70::76::77::83::84::88::89::93::94::98::99::103::104::108::109::115::116::120::121::125::126::132::133::139::140::146::147::151::152::158::159::165::166::172::173::177::178::182::183::189::190::196::197::203::204::210::211::217::218::224::225::231::232::238::239::245::246::252::253::259::260::266::267::273::274::278::279::285::286::292::293::297::298::302::303::309::310::316::317::323::324::328::329::335::336::342::343::349::350::356::357::361::362::368::369::375::376::382::383::389::390::396::397::403::404::408::409::415::416::420::421::427::428::434::435::439::440::446::447::451::452::456::457::461::462::466::467::473::474::480::481::485::486::492::493::497::498::504::505::511::512::513::514::527::528::530::531::541::542::548::549::555::556::562::563::569::570::576::577::583::584::590::591::[]
theorem eK:∀P,aK=(KK P).map (·.1):=fun _=>by kernel_rfl
end Tp
set_option maxHeartbeats 0
namespace Tp
open PySem PySem.Spec PyProof.Rows L2 PySem.W Cc
noncomputable abbrev h1 (P:Params):Heap:=heB P (g13 P)
noncomputable abbrev z1 (w:World) (os:OsState):Shared:=⟨h1 w.params,Array.mk [],boot_drawn,1105,os⟩
noncomputable abbrev xt:Shared→Bool:=fun s=>xlAt vq [] s && recOk [] s
theorem kG (P:Params):(g13 P).k=1105:=by kernel_rfl
theorem k1 (w:World) (os:OsState):(staticsOk (importedModules pw.main.body) (boot_heap w.params) (h1 w.params) && namesBound pw (h1 w.params) && gensDone (z1 w os) && laidKept (boot_heap w.params) (h1 w.params))=true:=by kernel_rfl
theorem k2 (w:World) (os:OsState):openSeen vq lo (importedModules pw.main.body) xt true (z1 w os)=openGood vq lo:=by kernel_rfl
theorem k3 (w:World) (os:OsState):Hook.obs (kHook KK aK eK) (z1 w os)=Hook.val (kHook KK aK eK) w:=by kernel_rfl
theorem pT (w:World) (os:OsState):sh w os (g13 w.params)=z1 w os:=by
 show Shared.mk (h1 w.params) (Array.mk []) boot_drawn (g13 w.params).k os=_
 rw [kG]
theorem hl:LeftO pw vq lo xt (Hook.obs (kHook KK aK eK)) (Hook.val (kHook KK aK eK)) 7448:=
 LeftO.of_pieces (H₀:=boot_heap) (H₁:=h1) pO pS (fun w os=>(pR w os).trans (congrArg some (pT w os))) (by decide) fun w=>funext fun os=>looks_pair (k1 w os) (looks_pair (k2 w os) (k3 w os))
end Tp
namespace Cc
open PySem PySem.Spec PyProof.Rows L2
open GarText (Bytes)
open GarPlug (Car Day)
theorem z0t {X:Cx}:k9 X (.builtin "len") (rLen X.K):=zSZ
section
variable {K:Fg}{mg:Str→Option Value}{t:Adr}{H:Hp}{a:Addr}
section
variable {Q:VK}
theorem zTz {c:Car} (T:Txt K mg t) (h:zZe t H a c) (q:∀nm,IL H nm (zb c.name)→Q (.ref nm) H):FldI K "name" (.ref a) H Q:=by
 obtain ⟨dx,nm,h1,h2⟩:=h
 exact ⟨a,_,dx,_,_,rfl,h1,T.k_Car.cl,T.k_Car.no _ (by decide +kernel),zSW,q nm h2⟩
theorem zYH {c:Car} (T:Txt K mg t) (h:zZe t H a c) (q:Q (.int c.from_) H):FldI K "comes" (.ref a) H Q:=by
 obtain ⟨dx,nm,h1,h2⟩:=h
 exact ⟨a,_,dx,_,_,rfl,h1,T.k_Car.cl,T.k_Car.no _ (by decide +kernel),zQ2,q⟩
theorem zZ6 {c:Car} (T:Txt K mg t) (h:zZe t H a c) (q:Q (.int c.to_) H):FldI K "leaves" (.ref a) H Q:=by
 obtain ⟨dx,nm,h1,h2⟩:=h
 exact ⟨a,_,dx,_,_,rfl,h1,T.k_Car.cl,T.k_Car.no _ (by decide +kernel),zRK,q⟩
theorem zWs {c:Car} (T:Txt K mg t) (h:zZe t H a c) (q:Q (.int c.need) H):FldI K "need" (.ref a) H Q:=by
 obtain ⟨dx,nm,h1,h2⟩:=h
 exact ⟨a,_,dx,_,_,rfl,h1,T.k_Car.cl,T.k_Car.no _ (by decide +kernel),z07,q⟩
theorem zVP {c:Car} (T:Txt K mg t) (h:zZe t H a c) (q:Q (.int c.rate) H):FldI K "rate" (.ref a) H Q:=by
 obtain ⟨dx,nm,h1,h2⟩:=h
 exact ⟨a,_,dx,_,_,rfl,h1,T.k_Car.cl,T.k_Car.no _ (by decide +kernel),z0k,q⟩
theorem z2G {d:Day} (T:Txt K mg t) (h:DayR t H a d) (q:∀nm,IL H nm (zb d.name)→Q (.ref nm) H):FldI K "name" (.ref a) H Q:=by
 obtain ⟨dx,nm,sp,pr,cs,h1,h2,h3,h4,h5⟩:=h
 exact ⟨a,_,dx,_,_,rfl,h1,T.k_Day.cl,T.k_Day.no _ (by decide +kernel),zS2,q nm h2⟩
theorem zUj {d:Day} (T:Txt K mg t) (h:DayR t H a d) (q:∀sp,IL H sp (zn d.supply)→Q (.ref sp) H):FldI K "supplies" (.ref a) H Q:=by
 obtain ⟨dx,nm,sp,pr,cs,h1,h2,h3,h4,h5⟩:=h
 exact ⟨a,_,dx,_,_,rfl,h1,T.k_Day.cl,T.k_Day.no _ (by decide +kernel),zWD,q sp h3⟩
theorem zRR {d:Day} (T:Txt K mg t) (h:DayR t H a d) (q:∀pr,IL H pr (zn d.price)→Q (.ref pr) H):FldI K "prices" (.ref a) H Q:=by
 obtain ⟨dx,nm,sp,pr,cs,h1,h2,h3,h4,h5⟩:=h
 exact ⟨a,_,dx,_,_,rfl,h1,T.k_Day.cl,T.k_Day.no _ (by decide +kernel),zV7,q pr h4⟩
theorem zQg {d:Day} (T:Txt K mg t) (h:DayR t H a d) (q:∀cs,zZB t H cs d.cars→Q (.ref cs) H):FldI K "cars" (.ref a) H Q:=by
 obtain ⟨dx,nm,sp,pr,cs,h1,h2,h3,h4,h5⟩:=h
 exact ⟨a,_,dx,_,_,rfl,h1,T.k_Day.cl,T.k_Day.no _ (by decide +kernel),zV3,q cs h5⟩
end
section
variable {Q:VK}
theorem zSO {ns:List Int}{k:Nat}{z:Int} (h:IL H a ns) (e:ns[k]?=some z) (q:Q (.int z) H):rIxL K (.ref a) (.int k) H Q:=⟨a,_,_,_,rfl,rfl,SqL.of h,zVT (by rw [zgm,e];rfl),q⟩
theorem jQ {as:List Addr}{k:Nat}{b:Addr} (h:RefL H a as) (e:as[k]?=some b) (q:Q (.ref b) H):rIxL K (.ref a) (.int k) H Q:=⟨a,_,_,_,rfl,rfl,SqL.of h,zVT (by rw [zgm,e];rfl),q⟩
theorem z3Z {ns:List Int} (h:IL H a ns) (q:Q (.int ns.length) H):rLen K [.ref a] H Q:=⟨a,_,rfl,.inl (SqL.of h),by rw [zlm];exact q⟩
theorem z0o {as:List Addr} (h:RefL H a as) (q:Q (.int as.length) H):rLen K [.ref a] H Q:=⟨a,_,rfl,.inl (SqL.of h),by rw [zlm];exact q⟩
theorem z2t {cars:List Car} (h:zZB t H a cars) (q:Q (.int cars.length) H):rLen K [.ref a] H Q:=by
 obtain ⟨as,h1,h2⟩:=h
 exact z0o h1 (by rw [h2.len];exact q)
theorem z3F {ns:List Int} (h:IL H a ns) (q:Q (.int ns.sum) H):rSum K [.ref a] H Q:=⟨a,ns,rfl,SqL.of h,q⟩
end
theorem z6 {l:List Nat}:(zn l).length=l.length:=List.length_map ..
theorem xT {l:Bytes}:(zb l).length=l.length:=List.length_map ..
theorem zVg {l:List Nat}{k n:Nat} (h:l[k]?=some n):(zn l)[k]?=some (n:Int):=by
 unfold zn
 rw [zgm,h]
 rfl
theorem z26 {l:Bytes}{k:Nat}{c:UInt8} (h:l[k]?=some c):(zb l)[k]?=some (c.toNat:Int):=by
 unfold zb
 rw [zgm,h]
 rfl
theorem itP {c:Prop} [Decidable c] {A B:Prop} (h1:c→A) (h2:¬c→B):if decide c=true then A else B:=by
 by_cases q:c
 ·rw [if_pos (decide_eq_true q)]
  exact h1 q
 ·rw [if_neg (by rw [decide_eq_false q];decide)]
  exact h2 q
theorem itB {b:Bool}{A B:Prop} (h1:b=true→A) (h2:b=false→B):if b=true then A else B:=by
 cases b
 ·exact h2 rfl
 ·exact h1 rfl
end
section
variable {P:Program}{w:World}{K:Fg}{mg:Str→Option Value}{base:Heap}{t:Adr}
theorem zWm (T:Txt K mg t):Own P w K mg base 1 "stay_fits" ["comes", "leaves", "slots"] (Sp3 fun a b c H Q=>∃i j k:Int,a=.int i∧b=.int j∧c=.int k∧RB t H Q (decide (i < j) && decide (j≤k))):=by
 refine own3 T.d_stay_fits zSE fun a b c H Q h f cdv A outer s E hr=>?_
 obtain ⟨i,j,k,rfl,rfl,rfl,k0⟩:=h
 refine ⟨_,(zV (zQ (zWq (uV zRp (pv 0) (pv 1) (z9 _)) (zVf (uV zVA (pv 1) (pv 2) (z9 _)))))),?_⟩
 refine ⟨_,rfl,_,rfl,_,_,rfl,rfl,_,rfl,itP (fun q=>?_) fun q=>?_⟩
 ·rw [decide_eq_true q] at k0
  exact ⟨_,rfl,_,rfl,_,_,rfl,rfl,k0 H (Sm.refl _)⟩
 ·rw [decide_eq_false q] at k0
  exact k0 H (Sm.refl _)
theorem kU (T:Txt K mg t):Own P w K mg base 1 "need_and_rate_fit" ["need", "rate"] (Sp2 fun a b H Q=>∃i j:Int,a=.int i∧b=.int j∧RB t H Q (decide (i≤99) && (decide (1≤j) && decide (j≤20)))):=by
 refine own2 T.d_need_and_rate_fit zXr fun a b H Q h f cdv A outer s E hr=>?_
 obtain ⟨i,j,rfl,rfl,k0⟩:=h
 refine ⟨_,(zV (zQ (zWq (uV zVA (pv 0) (z5 T.g_MOST_NEED) (z9 _)) (zWq (uV zVA z3 (pv 1) (z9 _)) (zVf (uV zVA (pv 1) (z5 T.g_MOST_RATE) (z9 _))))))),?_⟩
 refine ⟨_,rfl,_,_,rfl,rfl,_,rfl,itP (fun q=>?_) fun q=>?_⟩
 ·rw [decide_eq_true q] at k0
  refine ⟨_,rfl,_,_,rfl,rfl,_,rfl,itP (fun q=>?_) fun q=>?_⟩
  ·rw [decide_eq_true q] at k0
   exact ⟨_,rfl,_,_,rfl,rfl,k0 H (Sm.refl _)⟩
  ·rw [decide_eq_false q] at k0
   exact k0 H (Sm.refl _)
 ·rw [decide_eq_false q] at k0
  exact k0 H (Sm.refl _)
theorem zYT (T:Txt K mg t):Own P w K mg base 1 "can_take" ["car", "slot"] (Sp2 fun a b H Q=>∃(p:Addr) (c:Car) (k:Nat),a=.ref p∧zZe t H p c∧b=.int k∧RI t H Q (Chg.canTake c k:Nat)):=by
 refine own2 T.d_can_take zRq fun a b H Q h f cdv A outer s E hr=>?_
 obtain ⟨p,c,k,rfl,hc,rfl,k0⟩:=h
 refine ⟨_,(zW (yO (z21 (z8 zVA (zQf (pv 0) rfl) (pv 1) (z9 _)) (z1E (z8 zRp (pv 1) (zQf (pv 0) rfl) (z9 _)))).pt (zV (zQ (zQf (pv 0) rfl))) z7)
   (zV (zQ z3))),?_⟩
 have no:¬(c.from_≤k∧k < c.to_)→Q (.int 0) H:=fun q=>by
  have:=k0 H (Sm.refl _)
  unfold Chg.canTake at this
  rw [if_neg q] at this
  exact this
 refine ⟨_,rfl,zYH T hc ⟨_,rfl,_,_,rfl,rfl,_,rfl,itP (fun q=>?_) fun q=>iteF (no fun z=>q (by lia))⟩⟩
 refine ⟨_,rfl,_,rfl,zZ6 T hc ⟨_,_,rfl,rfl,_,rfl,itP (fun q2=>?_) fun q2=>no fun z=>q2 (by lia)⟩⟩
 refine ⟨_,rfl,zVP T hc ?_⟩
 have:=k0 H (Sm.refl _)
 unfold Chg.canTake at this
 rw [if_pos ⟨by lia,by lia⟩] at this
 exact this
end
open PySem PySem.Spec PyProof.Rows L2
open GarText (Bytes)
open GarPlug (Car Day)
section
variable {X:Cx} (K:Fg)
theorem zR {e:Expr}{f:Str}{pos:Pos}{ta:TE} (he:PE X e ta) (hb:attributeBase e f X.env (eval e X.env)=eval e X.env) (hK:X.K=K:=by rfl):PE X (.Attribute e f pos) (tFld K ta f):=by
 subst hK
 exact zQf he hb
theorem z4 (hK:X.K=K:=by rfl):IxR X (rIxL K):=by
 subst hK
 exact z33
theorem z0e (hK:X.K=K:=by rfl):IxR X (rIxT K):=by
 subst hK
 exact z4X
theorem lenK (hK:X.K=K:=by rfl):k9 X (.builtin "len") (rLen K):=by
 subst hK
 exact z0t
theorem y8 {e:Expr}{es:List Expr}{t:TA}{p pos:Pos} (hm:X.mg "len" = none) (ha:PA X (e::es) t) (hK:X.K=K:=by rfl) (hg:Gl X "len" := by rfl)
  (he:starEach (e::es) X.env=(false,eval e X.env)::starEach es X.env:=by rfl) (hpl:(backTo pos (starEach es X.env)).any (·.1)=false:=by rfl):PE X (.Call (.Name "len" p) (e::es) [] pos) (tCB (rLen K) t):=
 yS (lenK K hK) hg hm (by decide +kernel) ha (by decide) (by decide) he hpl
theorem sumK (hc:X.calm=true) (hK:X.K=K:=by rfl):k9 X (.builtin "sum") (rSum K):=by
 subst hK
 exact z4C hc
theorem maxK (hc:X.calm=true) (hK:X.K=K:=by rfl):k9 X (.builtin "max") (rMax K):=by
 subst hK
 exact z4i hc
theorem minK (hc:X.calm=true) (hK:X.K=K:=by rfl):k9 X (.builtin "min") (rMin K):=by
 subst hK
 exact z49 hc
theorem allK (hc:X.calm=true) (hK:X.K=K:=by rfl):k9 X (.builtin "all") (rAll K):=by
 subst hK
 exact z4V hc
theorem anyK (hc:X.calm=true) (hK:X.K=K:=by rfl):k9 X (.builtin "any") (rAny K):=by
 subst hK
 exact z4P hc
theorem xZ (hK:X.K=K:=by rfl):SlR X (rSlL K):=by
 subst hK
 exact z3n
theorem yV {tg l:Expr}{tl:TE} (hl:PE X l tl) (hK:X.K=K:=by rfl):PI X tg l (z41 K tl):=by
 subst hK
 exact z3K hl
theorem z1b (hK:X.K=K:=by rfl):MtR X "list.index" (z1F K):=by
 subst hK
 exact z2j
def z0m (K:Fg):List V→Hp→VK→Prop:=fun xs H Q=>∃p ys,xs=[.ref p]∧(SqL K H p ys∨SqT K H p ys)∧∀l,H l=none→Q (.ref l) (upd H l (.lst ys))
theorem zVO (hK:X.K=K:=by rfl):k9 X (.type "list") (z0m K):=by
 subst hK
 exact zS6
end
section
variable {K:Fg}{mg:Str→Option Value}{t:Adr}{H:Hp}{a:Addr}{Q:VK}{σ:L2.St}
theorem lenI {ns:List Int} (h:IL H a ns) (q:Q (.int ns.length) H):tNil σ H fun xs H2=>rLen K (.ref a::xs) H2 Q:=z3Z h q
theorem lenR {as:List Addr} (h:RefL H a as) (q:Q (.int as.length) H):tNil σ H fun xs H2=>rLen K (.ref a::xs) H2 Q:=z0o h q
theorem lenC {cars:List Car} (h:zZB t H a cars) (q:Q (.int cars.length) H):tNil σ H fun xs H2=>rLen K (.ref a::xs) H2 Q:=z2t h q
theorem sumI {ns:List Int} (h:IL H a ns) (q:Q (.int ns.sum) H):tNil σ H fun xs H2=>rSum K (.ref a::xs) H2 Q:=z3F h q
theorem maxI {ns:List Int} (h:IL H a ns) (h0:0 < ns.length) (q:∀m,m∈ns→(∀y,y∈ns→y≤m)→Q (.int m) H):tNil σ H fun xs H2=>rMax K (.ref a::xs) H2 Q:=⟨a,ns,rfl,SqL.of h,h0,q⟩
theorem minI {ns:List Int} (h:IL H a ns) (h0:0 < ns.length) (q:∀m,m∈ns→(∀y,y∈ns→m≤y)→Q (.int m) H):tNil σ H fun xs H2=>rMin K (.ref a::xs) H2 Q:=⟨a,ns,rfl,SqL.of h,h0,q⟩
theorem allB {bs:List Bool} (h:H a=some (.lst (bs.map V.bl))) (q:Q (.bl (bs.all id)) H):tNil σ H fun xs H2=>rAll K (.ref a::xs) H2 Q:=⟨a,bs,rfl,SqL.of h,q⟩
theorem anyB {bs:List Bool} (h:H a=some (.lst (bs.map V.bl))) (q:Q (.bl (bs.any id)) H):tNil σ H fun xs H2=>rAny K (.ref a::xs) H2 Q:=⟨a,bs,rfl,SqL.of h,q⟩
theorem listI {ns:List Int} (h:IL H a ns) (q:∀l,H l=none→Q (.ref l) (upd H l (.lst (ns.map V.int)))):tNil σ H fun xs H2=>z0m K (.ref a::xs) H2 Q:=⟨a,_,rfl,.inl (SqL.of h),q⟩
end
open PySem PySem.Spec PyProof.Rows L2
open GarText (Bytes)
open GarPlug (Car Day)
open Chg (canTake xY qZ uS zZC tk yT)
theorem zVw:∀l:List Nat,(zn l).sum=(GarLoad.sumOf l:Int)
 | []=>rfl
 | x::l=>by
  show ((x:Int)::zn l).sum=((x+GarLoad.sumOf l:Nat):Int)
  rw [List.sum_cons,zVw l]
  lia
theorem z1W {α:Type} (l:List α) (d:α) (f:α→Int):(List.range l.length).map (fun j=>f (l.getD j d))=l.map f:=by
 refine List.ext_getElem (by simp) fun i h1 h2=>?_
 have hi:i < l.length:=by simpa using h1
 rw [List.getElem_map,List.getElem_map,List.getElem_range,List.getD_eq_getElem?_getD,zge hi]
 rfl
section
variable {P:Program}{w:World}{K:Fg}{mg:Str→Option Value}{base:Heap}{t:Adr}
theorem z2S {H:Hp}{as:List Addr}{cars:List Car} (h:All2 (zZe t H) as cars) {j:Nat}{x:V} (e:(as.map V.ref)[j]?=some x):∃p,x=.ref p∧j < cars.length∧zZe t H p (cars.getD j Chg.car0):=by
 rw [zgm] at e
 cases q:as[j]? with
 | none=>
  rw [q] at e
  cases e
 | some p=>
  rw [q] at e
  have hj:=(List.getElem?_eq_some_iff.mp q).1
  have hj2:j < cars.length:=by rw [←h.len];exact hj
  exact ⟨p,(zsi e).symm,hj2,h.get q (by rw [zge hj2,Chg.vX hj2])⟩
inductive zQm (t:Adr) (a:V) (H:Hp) (Q:VK):Prop
 | mk (p:Addr) (S:List Car) (_:a=.ref p) (_:zZB t H p S) (_:S.length≤100) (_:RI t H Q (xY S:Nat)):zQm t a H Q
theorem zZt (T:Txt K mg t):Own P w K mg base 1 "wants" ["chosen"] (Sp1 (zQm t)):=by
 refine own1 T.d_wants zTO fun a H Q h f cdv A outer s E hr=>?_
 obtain ⟨p,S,rfl,⟨as,h1,h2⟩,hl,k0⟩:=h
 refine ⟨_,(zV (zQ (yS (sumK K rfl) (by rfl) T.b_sum (by decide +kernel) (zZ (zZf (own:=[("car", 1)]) rfl zTO.nd (yV K (pv 0)) (yU rfl) (fun _ _ _ _ _=>(yZ (i:=1) zTO.nd)) (fun _ _ _ _ _=>y4) (fun _ _ _ _ _=>(zR K (pv 1) rfl))) zY)))),?_⟩
 refine ⟨_,rfl,p,rfl,⟨_,SqL.of h1⟩,fun D nD=>zYz (Ts:=Ts t) (y6.seq (SqL.of h1)) nD (by rw [zlm,h2.len];lia) (fun j=>((S.getD j Chg.car0).need:Int)) (fun j x H' Q' hj S' it k=>?_) fun H' S' hD=>?_⟩
 ·obtain ⟨q,rfl,_,hc⟩:=z2S h2 it
  exact ⟨rfl,_,rfl,zWs T (hc.sm S') (k _ (Sm.refl _))⟩
 ·refine sumI hD ?_
  have e:((List.range (as.map V.ref).length).map fun j=>((S.getD j Chg.car0).need:Int)).sum=((xY S:Nat):Int):=by
   rw [zlm,h2.len,z1W S Chg.car0 fun c=>(c.need:Int)]
   unfold xY
   rw [←zVw]
   unfold zn
   rw [List.map_map]
   rfl
  rw [e]
  exact k0 H' S'
inductive z06 (t:Adr) (a:V) (b:V) (c:V) (H:Hp) (Q:VK):Prop
 | mk (p q:Addr) (S:List Car) (sup:List Nat) (k:Nat) (_:a=.ref p) (_:b=.ref q) (_:c=.int k) (_:zZB t H p S) (_:S.length≤100) (_:IL H q (zn sup)) (_:k < sup.length) (_:RI t H Q (qZ S sup k:Nat)):z06 t a b c H Q
theorem zR0 (T:Txt K mg t):Own P w K mg base 2 "gets" ["chosen", "supplies", "slot"] (Sp3 (z06 t)):=by
 refine own3 T.d_gets zRB fun a b c H Q h f cdv A outer s E hr=>?_
 obtain ⟨p,q,S,sup,k,rfl,rfl,rfl,⟨as,h1,h2⟩,hl,hs,hk,k0⟩:=h
 refine ⟨_,(zV (zQ (yS (zSS rfl) (by rfl) T.b_min (by decide +kernel) (zZ (yP (z4 K) (pv 1) (pv 2) (fun _ _=>rfl)) (zZ (yS (sumK K rfl) (by rfl) T.b_sum (by decide +kernel) (zZ (zZf (own:=[("car", 3)]) rfl zRB.nd (yV K (pv 0)) (yU rfl) (fun _ _ _ _ _=>(yZ (i:=3) zRB.nd)) (fun _ _ _ _ _=>y4) (fun _ _ _ _ _=>(zS (zYT T) hr.o (zZ (pv 3) (zZ (pv 2) zY))))) zY)) zY))))),?_⟩
 have e0:(zn sup)[k]?=some ((sup.getD k 0:Nat):Int):=zVg (by rw [zge hk,Chg.vX hk])
 refine ⟨_,rfl,_,rfl,zSO hs e0 ⟨_,rfl,p,rfl,⟨_,SqL.of h1⟩,fun D nD=>zYz (Ts:=Ts t) (y6.seq (SqL.of h1)) nD (by rw [zlm,h2.len];lia) (fun j=>((canTake (S.getD j Chg.car0) k:Nat):Int)) (fun j x H' Q' hj S' it k'=>?_) fun H' S' hD=>?_⟩⟩
 ·obtain ⟨q,rfl,_,hc⟩:=z2S h2 it
  exact ⟨rfl,_,rfl,_,rfl,_,_,rfl,q,_,k,rfl,hc.sm S',rfl,k'⟩
 ·have e:((List.range (as.map V.ref).length).map fun j=>((canTake (S.getD j Chg.car0) k:Nat):Int)).sum=((zZC S k:Nat):Int):=by
   rw [zlm,h2.len,z1W S Chg.car0 fun c=>((canTake c k:Nat):Int)]
   unfold zZC
   rw [←zVw]
   unfold zn
   rw [List.map_map]
   rfl
  refine sumI hD ?_
  rw [e]
  refine ⟨_,_,rfl,?_⟩
  have e2:(if ((zZC S k:Nat):Int) < ((sup.getD k 0:Nat):Int) then ((zZC S k:Nat):Int) else ((sup.getD k 0:Nat):Int))=((qZ S sup k:Nat):Int):=by
   unfold qZ
   split<;>lia
  rw [e2]
  exact k0 H' S'
inductive z1q (t:Adr) (a:V) (b:V) (H:Hp) (Q:VK):Prop
 | mk (p q:Addr) (S:List Car) (sup:List Nat) (_:a=.ref p) (_:b=.ref q) (_:zZB t H p S) (_:S.length≤100) (_:IL H q (zn sup)) (_:sup.length≤100) (_:RI t H Q (uS S sup:Nat)):z1q t a b H Q
theorem zVQ (T:Txt K mg t):Own P w K mg base 3 "room" ["chosen", "supplies"] (Sp2 (z1q t)):=by
 refine own2 T.d_room zRa fun a b H Q h f cdv A outer s E hr=>?_
 obtain ⟨p,q,S,sup,rfl,rfl,h1,hl,hs,hk,k0⟩:=h
 refine ⟨_,(zV (zQ (yS (sumK K rfl) (by rfl) T.b_sum (by decide +kernel) (zZ (zZf (own:=[("slot", 2)]) rfl zRa.nd (wO (by rfl) T.b_range (zZ (y8 K T.b_len (zZ (pv 1) zY)) zY)) (yU rfl) (fun _ _ _ _ _=>(yZ (i:=2) zRa.nd)) (fun _ _ _ _ _=>y4) (fun _ _ _ _ _=>(zS (zR0 T) hr.o (zZ (pv 0) (zZ (pv 1) (zZ (pv 2) zY)))))) zY)))),?_⟩
 refine ⟨_,rfl,lenI hs ⟨_,rfl,by rw [z6];lia,by rw [z6];lia,fun D nD=>zYz (Ts:=Ts t) (y6.rng _) nD (by rw [z6];lia) (fun j=>((qZ S sup j:Nat):Int)) (fun j x H' Q' hj S' it k'=>?_) fun H' S' hD=>?_⟩⟩
 ·subst it
  rw [z6] at hj
  exact ⟨rfl,_,rfl,_,rfl,_,rfl,_,_,_,rfl,p,q,S,sup,j,rfl,rfl,rfl,h1.sm S',hl,hs.sm S',by lia,k'⟩
 ·have e:((List.range (((zn sup).length:Int)).toNat).map fun j=>((qZ S sup j:Nat):Int)).sum=((uS S sup:Nat):Int):=by
   rw [z6,Int.toNat_natCast]
   unfold uS
   rw [←zVw]
   unfold zn
   rw [List.map_map]
   rfl
  refine sumI hD ?_
  rw [e]
  exact k0 H' S'
inductive zV1 (t:Adr) (a:V) (b:V) (H:Hp) (Q:VK):Prop
 | mk (p q:Addr) (S:List Car) (sup:List Nat) (_:a=.ref p) (_:b=.ref q) (_:zZB t H p S) (_:S.length≤100) (_:IL H q (zn sup)) (_:sup.length≤100) (_:RI t H Q ((xY S-uS S sup:Nat):Int)):zV1 t a b H Q
theorem zVu (T:Txt K mg t):Own P w K mg base 4 "too_much" ["chosen", "supplies"] (Sp2 (zV1 t)):=by
 refine own2 T.d_too_much zRU fun a b H Q h f cdv A outer s E hr=>?_
 obtain ⟨p,q,S,sup,rfl,rfl,h1,hl,hs,hk,k0⟩:=h
 refine ⟨_,(zV (zQ (yS (z1p rfl) (by rfl) T.b_max (by decide +kernel) (zZ z3 (zZ (yQ zZL (zS (zZt T) hr.o (zZ (pv 0) zY)) (zS (zVQ T) hr.o (zZ (pv 0) (zZ (pv 1) zY)))) zY))))),?_⟩
 refine ⟨_,rfl,_,rfl,p,S,rfl,h1,hl,fun H1 S1=>⟨_,rfl,_,rfl,_,_,rfl,p,q,S,sup,rfl,rfl,h1.sm S1,hl,hs.sm S1,hk,fun H2 S2=>⟨_,_,rfl,rfl,_,_,rfl,?_⟩⟩⟩
 have e:(if ((xY S:Nat):Int)-((uS S sup:Nat):Int) > 0 then ((xY S:Nat):Int)-((uS S sup:Nat):Int) else 0)=((xY S-uS S sup:Nat):Int):=by
  split<;>lia
 rw [e]
 exact k0 H2 (S1.trans S2)
end
open PySem PySem.Spec PyProof.Rows L2
open GarText (Bytes)
open GarPlug (Car Day)
open GarLoad
open Chg (canTake xY qZ uS zZC tk yT pick excL)
theorem zYJ {α:Type} (l:List α) (a:Nat):(pick l a).length≤l.length:=by
 unfold pick
 rw [zlm]
 have:=List.length_filter_le (fun (x:α×Nat)=>a.testBit x.2) l.zipIdx
 rw [List.length_zipIdx] at this
 exact this
theorem sz {xs:List V} (h:xs.length.ble 1000=true):xs.length≤sizeLine:=by
 have:=Nat.le_of_ble_eq_true h
 rw [sizeLine_eq]
 lia
theorem zSq {n:Nat} (h:n≤6):2 ^ n≤64:=Nat.pow_le_pow_right (by decide) h
theorem z44 (n j:Nat):Builtin.bitAnd ((n:Int) / 2 ^ ((j:Int)).toNat) 1=if n.testBit j=true then 1 else 0:=by
 have e:((n:Int) / 2 ^ ((j:Int)).toNat)=((n / 2 ^ j:Nat):Int):=by
  rw [Int.toNat_natCast,Int.natCast_ediv,Int.natCast_pow]
  rfl
 rw [e]
 unfold Builtin.bitAnd
 rw [decide_eq_true (Int.natCast_nonneg _)]
 show (((n / 2 ^ j:Nat):Int).toNat &&& (1:Int).toNat:Nat)=(if n.testBit j=true then (1:Int) else 0)
 rw [Int.toNat_natCast]
 show (((n / 2 ^ j) &&& 1:Nat):Int)=_
 rw [Nat.and_one_is_mod,Nat.testBit_eq_decide_div_mod_eq]
 by_cases q:n / 2 ^ j % 2=1
 ·rw [if_pos (decide_eq_true q),q]
  rfl
 ·rw [if_neg (by rw [decide_eq_false q];decide)]
  lia
section
variable {P:Program}{w:World}{K:Fg}{mg:Str→Option Value}{base:Heap}{t:Adr}
theorem z0O {H:Hp}{ps:List Addr}{Z:List (List Addr)} (h:All2 (fun p S=>RefL H p S) ps Z) {j:Nat}{x:V} (e:(ps.map V.ref)[j]?=some x):∃p S,x=.ref p∧ps[j]?=some p∧Z[j]?=some S∧RefL H p S:=by
 rw [zgm] at e
 cases q:ps[j]? with
 | none=>
  rw [q] at e
  cases e
 | some p=>
  rw [q] at e
  have hj:=(List.getElem?_eq_some_iff.mp q).1
  have hj2:j < Z.length:=by rw [←h.len];exact hj
  exact ⟨p,Z[j],(zsi e).symm,rfl,zge hj2,h.get q (zge hj2)⟩
theorem zTX {H:Hp}{ps as:List Addr}{S:List Car} (h:All2 (fun p S=>RefL H p S) ps (yT as)) (hc:All2 (zZe t H) as S) {j:Nat}{x:V} (e:(ps.map V.ref)[j]?=some x):∃p,x=.ref p∧j < 2 ^ S.length∧zZB t H p (pick S j):=by
 obtain ⟨p,Y,rfl,_,e2,r⟩:=z0O h e
 have hj:j < 2 ^ as.length:=by
  have:=(List.getElem?_eq_some_iff.mp e2).1
  rw [Chg.zRD] at this
  exact this
 rw [Chg.z3A hj] at e2
 cases e2
 exact ⟨p,rfl,by rw [←hc.len];exact hj,_,r,hc.pick j⟩
theorem RefL.app {H:Hp}{a b p:Addr}{l m:List Addr}{Q:VK} (h:RefL H a l) (h2:RefL H b m) (hl:l.length+m.length≤4096) (k:∀p,H p=none→RefL (upd H p (.lst ((l++m).map V.ref))) p (l++m)→Q (.ref p) (upd H p (.lst ((l++m).map V.ref)))):rCat (.ref a) (.ref b) H Q:=
 ⟨a,b,_,_,rfl,rfl,h,h2,by rw [zlm,zlm,sizeLine_eq];lia,fun p hp=>by rw [←List.map_append];exact k p hp zX⟩
def zUF (H0 H:Hp) (a:Addr) (Z:List (List Addr)):Prop:=∃ps,RefL H a ps∧All2 (fun p S=>RefL H p S∧H0 p=none) ps Z
theorem zUF.a {H0 H:Hp}{a:Addr}{Z:List (List Addr)} (h:zUF H0 H a Z):z0s H a Z:=by
 obtain ⟨ps,h1,h2⟩:=h
 exact ⟨ps,h1,h2.imp fun _ _ r=>r.1⟩
theorem zUF.sm {H0 H H':Hp}{a:Addr}{Z:List (List Addr)} (h:zUF H0 H a Z) (S:Sm (Ts t) H H'):zUF H0 H' a Z:=by
 obtain ⟨ps,h1,h2⟩:=h
 exact ⟨ps,h1.sm S,h2.imp fun _ _ r=>⟨r.1.sm S,r.2⟩⟩
theorem zUF.upd {H0 H:Hp}{a x:Addr}{Z:List (List Addr)}{o u:HO} (h:zUF H0 H a Z) (ha:H0 a=none) (hx:H0 x=some o):zUF H0 (upd H x u) a Z:=by
 obtain ⟨ps,h1,h2⟩:=h
 refine ⟨ps,?_,h2.imp fun p S r=>⟨?_,r.2⟩⟩
 ·unfold RefL
  rw [zP (zT hx ha).symm]
  exact h1
 ·unfold RefL
  rw [zP (zT hx r.2).symm]
  exact r.1
inductive zUD (t:Adr) (a:V) (H:Hp) (Q:VK):Prop
 | mk (p:Addr) (as:List Addr) (_:a=.ref p) (_:RefL H p as) (_:as.length≤6) (_:∀D H',Sm (Ts t) H H'→H D=none→zUF H H' D (yT as)→Q (.ref D) H'):zUD t a H Q
theorem vP (T:Txt K mg t):Own P w K mg base 1 "all_sets" ["cars"] (Sp1 (zUD t)):=by
 refine own1 T.d_all_sets j3 fun a H Q h f cdv A outer s E hr=>?_
 obtain ⟨p,as,rfl,h1,hl,k0⟩:=h
 refine ⟨_,(zW (yY (i:=1) j3.nd (yX (zZ (yX zY) zY)))
   (zW (kQ PassesOwn.never rfl (yV K (pv 0)) (yZ (i:=2) j3.nd)
   (zV (yY (i:=1) j3.nd (yQ v5 (pv 1) (zZf (own:=[("chosen", 3)]) rfl j3.nd (yV K (pv 1)) (yU rfl) (fun _ _ _ _ _=>(yZ (i:=3) j3.nd)) (fun _ _ _ _ _=>y4) (fun _ _ _ _ _=>(yQ v5 (pv 3) (yX (zZ (pv 2) zY)))))))))
   (zV (zQ (pv 1))))),?_⟩
 refine ⟨sz rfl,fun e he=>⟨sz rfl,fun D hD=>?_⟩⟩
 have nD:H D=none:=(Sm.new (Ts:=Ts t) (o:=.lst []) he).free hD
 have S0:Sm (Ts t) H (upd (upd H e (.lst [])) D (.lst [V.ref e])):=(Sm.new he).add hD
 have hp:RefL (upd (upd H e (.lst [])) D (.lst [V.ref e])) p as:=h1.sm S0
 refine ⟨_,rfl,p,rfl,⟨_,SqL.of hp⟩,k7 (Ts:=Ts t) (y6.seq (SqL.of hp)) (fun i σ H'=>Sm (Ts t) (upd (upd H e (.lst [])) D (.lst [V.ref e])) H'∧∃E oc,σ=[some (.ref p),some (.ref E),oc,none]∧H E=none∧zUF H H' E (yT (as.take i))) (fun _ _ _ h=>h.1) ⟨Sm.refl _,D,none,rfl,nD,?_⟩ ?_ ?_⟩
 ·refine ⟨[e],zX,.cons ⟨?_,he⟩ .nil⟩
  show upd (upd H e (.lst [])) D (.lst [V.ref e]) e=some (.lst [])
  rw [zP (zT zX hD),zX]
 ·rintro i x σ H1 H2 hi ⟨S1,E,oc,rfl,nE,hE⟩ S2 it
  rw [zlm] at hi
  obtain ⟨ps,hE1,hE2⟩:=hE.sm (t:=t) S2
  have ex:∃c,x=.ref c∧as[i]?=some c:=by
   rw [zgm] at it
   cases q:as[i]? with
   | none=>
    rw [q] at it
    cases it
   | some c=>
    rw [q] at it
    exact ⟨c,(zsi it).symm,rfl⟩
  obtain ⟨c,rfl,ec⟩:=ex
  have tk1:as.take (i+1)=as.take i++[c]:=by
   rw [List.take_add_one,ec]
   rfl
  have hlen:ps.length=2 ^ i:=by
   rw [hE2.len,Chg.zRD,List.length_take,Nat.min_eq_left (by lia)]
  have hps:ps.length≤64:=by
   rw [hlen]
   exact zSq (by lia)
  have SS:=S0.trans (S1.trans S2)
  refine ⟨_,rfl,_,rfl,E,rfl,⟨_,SqL.of hE1⟩,fun D2 nD2=>zUc (Ts:=Ts t) (y6.seq (SqL.of hE1)) nD2 (by rw [zlm];lia)
   (fun j y H'=>∃q Y,y=.ref q∧q≠D2∧(yT (as.take i))[j]?=some Y∧RefL H' q (Y++[c])∧H q=none) (fun j y Ha Hb Sab ⟨q,Y,e1,e2,e3,e4,e5⟩=>⟨q,Y,e1,e2,e3,e4.sm Sab,e5⟩) (fun j y Ha o ⟨q,Y,e1,e2,e3,e4,e5⟩=>⟨q,Y,e1,e2,e3,by unfold RefL;rw [zP e2];exact e4,e5⟩) ?_ ?_⟩
  ·intro j y H3 Q' hj S3 ⟨acc,hacc⟩ it2 k
   obtain ⟨q,Y,rfl,ep,eY,hY⟩:=z0O (hE2.imp fun _ _ r=>r.1) it2
   have lY:Y.length≤6:=by
    have:j < 2 ^ (as.take i).length:=by
     have:=(List.getElem?_eq_some_iff.mp eY).1
     rw [Chg.zRD] at this
     exact this
    rw [Chg.z3A this] at eY
    rw [←zsi eY]
    refine Nat.le_trans (zYJ _ _) ?_
    rw [List.length_take]
    lia
   have hY3:=hY.sm (t:=t) S3
   refine ⟨rfl,_,rfl,_,rfl,sz rfl,fun b hb=>?_⟩
   have hb1:RefL (upd H3 b (.lst [V.ref c])) b [c]:=zX
   have Sb:Sm (Ts t) H3 (upd H3 b (.lst [V.ref c])):=Sm.new hb
   refine RefL.app (p:=b) (hY3.sm Sb) hb1 (by simp only [List.length_singleton];lia) fun r hr hr2=>?_
   refine k _ _ (Sb.add hr) ⟨r,Y,rfl,?_,eY,hr2,(SS.trans (S3.trans Sb)).free hr⟩
   exact (zT (Sb.keep _ _ hacc yR) hr).symm
  ·intro ys H3 S3 hys hR hD3
   have ex2:∃qs:List Addr,ys=qs.map V.ref∧qs.length=ys.length∧∀(j:Nat) (q:Addr),qs[j]?=some q→∃Y,(yT (as.take i))[j]?=some Y∧RefL H3 q (Y++[c])∧H q=none:=by
    clear hys hD3
    have gen:∀(l:List V),(∀(j:Nat) (y:V),l[j]?=some y→∃q:Addr,y=V.ref q)→∃qs:List Addr,l=qs.map V.ref:=by
     intro l
     induction l with
     | nil=>exact fun _=>⟨[],rfl⟩
     | cons y l ih=>
      intro hh
      obtain ⟨q,rfl⟩:=hh 0 _ rfl
      obtain ⟨qs,rfl⟩:=ih fun j z ej=>hh (j+1) z ej
      exact ⟨q::qs,rfl⟩
    obtain ⟨qs,rfl⟩:=gen ys fun j y ej=>by
     obtain ⟨q,Y,e1,_⟩:=hR j y ej
     exact ⟨q,e1⟩
    refine ⟨qs,rfl,(List.length_map ..).symm,fun j q ej=>?_⟩
    obtain ⟨q',Y,e1,_,e3,e4,e5⟩:=hR j (.ref q) (by rw [zgm,ej];rfl)
    cases e1
    exact ⟨Y,e3,e4,e5⟩
   obtain ⟨qs,rfl,hql,hq⟩:=ex2
   rw [zlm] at hys hql
   rw [zlm] at hys
   refine RefL.app (p:=E) (hE1.sm S3) hD3 (by lia) fun r hr hr2=>⟨((S1.trans S2).trans S3).add hr,r,some (.ref c),rfl,?_,?_⟩
   ·exact (SS.trans S3).free hr
   ·refine ⟨ps++qs,hr2,?_⟩
    have S4:Sm (Ts t) H3 (upd H3 r (.lst ((ps++qs).map V.ref))):=Sm.new hr
    rw [tk1,Chg.zSF]
    refine All2.app (hE2.imp fun _ _ h=>⟨(h.1.sm S3).sm S4,h.2⟩) (All2.of ?_ fun j q Y ej eY=>?_)
    ·rw [zlm,←hE2.len]
     lia
    ·obtain ⟨Y',e3,e4,e5⟩:=hq j q ej
     rw [zgm,e3] at eY
     rw [←zsi eY]
     exact ⟨e4.sm S4,e5⟩
 ·rintro σ H1 ⟨S1,E,oc,rfl,nE,hE⟩
  rw [zlm,List.take_length] at hE
  exact ⟨_,rfl,k0 E H1 (S0.trans S1) nE hE⟩
inductive zZS (t:Adr) (a:V) (b:V) (H:Hp) (Q:VK):Prop
 | mk (n m:Nat) (_:a=.int n) (_:b=.int m) (_:m≤100) (_:RZ t H Q (zn (WqgarjSpec.counted m n))):zZS t a b H Q
theorem u6 (T:Txt K mg t):Own P w K mg base 1 "counted_members" ["number", "count"] (Sp2 (zZS t)):=by
 refine own2 T.d_counted_members jV fun a b H Q h f cdv A outer s E hr=>?_
 obtain ⟨n,m,rfl,rfl,hm,k0⟩:=h
 refine ⟨_,(zW (zZH (i:=2) (own:=[("car", 3)]) rfl jV.nd rfl rfl (zYW rfl rfl rfl rfl) (wO (by rfl) T.b_range (zZ (pv 1) zY)) (yU rfl) (fun _ _ _ _ _=>(yZ (i:=3) jV.nd)) (fun _ _ _ _ _=>(z3I (z8 u5 (yQ z40 (yQ z4o (pv 0) (pv 3)) z3) z3 (z9 _)))) (fun _ _ _ _ _=>(pv 3)))
   (zV (zQ (yQ v5 (yX (zZ (y8 K T.b_len (zZ (pv 2) zY)) zY)) (pv 2))))),?_⟩
 refine ⟨_,rfl,_,rfl,by lia,by lia,fun D nD=>z3J (Ts:=Ts t) (y6.rng _) nD (by rw [Int.toNat_natCast];lia) (fun j=>n.testBit j) (fun (j:Nat)=>(j:Int)) (fun j x H' Qy Qn hj S' it ky kn=>?_) fun H' S' hD=>?_⟩
 ·subst it
  refine ⟨rfl,_,rfl,_,rfl,_,_,rfl,rfl,Int.natCast_nonneg _,_,_,rfl,rfl,rfl,_,rfl,?_⟩
  have e1:decide (V.int (Builtin.bitAnd ((n:Int) / 2 ^ ((j:Int)).toNat) 1)=V.int 1)=n.testBit j:=by
   rw [zYj,z44]
   cases n.testBit j<;>rfl
  exact itB (fun q=>⟨_,rfl,ky (e1.symm.trans q) H' (Sm.refl _)⟩) fun q=>kn (e1.symm.trans q) H' (Sm.refl _)
 ·have e:(((List.range ((m:Int)).toNat).filter fun j=>n.testBit j).map fun (j:Nat)=>(j:Int))=zn (WqgarjSpec.carsOf m n):=by
   rw [Int.toNat_natCast]
   rfl
  rw [e] at hD
  have hD:IL H' D (zn (WqgarjSpec.carsOf m n)):=hD
  refine ⟨_,rfl,lenI hD ⟨sz rfl,fun b hb=>?_⟩⟩
  have Sb:Sm (Ts t) H' (upd H' b (.lst [V.int (zn (WqgarjSpec.carsOf m n)).length])):=Sm.new hb
  have lc:(WqgarjSpec.carsOf m n).length≤m:=by
   have:=List.length_filter_le (fun c=>n.testBit c) (List.range m)
   rw [List.length_range] at this
   exact this
  refine ⟨_,rfl,b,D,_,_,rfl,rfl,zX,hD.sm Sb,?_,fun r hr=>k0 r _ (S'.trans (Sb.add hr)) ((S'.trans Sb).free hr) ?_⟩
  ·rw [zlm,z6,sizeLine_eq]
   simp only [List.length_singleton]
   lia
  ·show upd _ r _ r=_
   rw [zX]
   unfold WqgarjSpec.counted
   rw [z6]
   rfl
inductive zYI (t:Adr) (a:V) (b:V) (c:V) (H:Hp) (Q:VK):Prop
 | mk (p q:Addr) (as:List Addr) (S:List Car) (sup:List Nat) (k:Nat) (_:a=.ref p) (_:b=.ref q) (_:c=.int k) (_:z0s H p (yT as)) (_:All2 (zZe t H) as S) (_:S.length≤6) (_:IL H q (zn sup)) (_:sup.length≤100) (_:k < sup.length) (_:RI t H Q (leastAt (tk S sup) k:Nat)):zYI t a b c H Q
theorem qY (T:Txt K mg t):Own P w K mg base 4 "wanted_there" ["sets", "supplies", "slot"] (Sp3 (zYI t)):=by
 refine own3 T.d_wanted_there zZv fun a b c H Q h f cdv A outer s E hr=>?_
 obtain ⟨p,q,as,S,sup,k,rfl,rfl,rfl,⟨ps,h1,h2⟩,hc,hl,hs,hsl,hk,k0⟩:=h
 refine ⟨_,(zV (zQ (yS (maxK K rfl) (by rfl) T.b_max (by decide +kernel) (zZ (zZf (own:=[("chosen", 3)]) rfl zZv.nd (yV K (pv 0)) (yU rfl) (fun _ _ _ _ _=>(yZ (i:=3) zZv.nd)) (fun _ _ _ _ _=>y4) (fun _ _ _ _ _=>(yQ vR (yQ zZL (zS (zZt T) hr.o (zZ (pv 3) zY)) (zS (zVQ T) hr.o (zZ (pv 3) (zZ (pv 1) zY)))) (zS (zR0 T) hr.o (zZ (pv 3) (zZ (pv 1) (zZ (pv 2) zY))))))) zY)))),?_⟩
 have hlen:(ps.map V.ref).length=2 ^ S.length:=by rw [zlm,h2.len,Chg.zRD,hc.len]
 refine ⟨_,rfl,p,rfl,⟨_,SqL.of h1⟩,fun D nD=>zYz (Ts:=Ts t) (y6.seq (SqL.of h1)) nD (by rw [hlen];exact Nat.le_trans (zSq hl) (by decide)) (fun j=>Chg.wantAt (pick S j) sup k) (fun j x H' Q' hj S' it k'=>?_) fun H' S' hD=>?_⟩
 ·obtain ⟨r,rfl,_,hr⟩:=zTX h2 hc it
  have hr:=hr.sm (t:=t) S'
  have pl:(pick S j).length≤100:=Nat.le_trans (zYJ _ _) (by lia)
  refine ⟨rfl,_,rfl,_,rfl,r,_,rfl,hr,pl,fun H2 S2=>⟨_,rfl,_,rfl,_,_,rfl,r,q,_,sup,rfl,rfl,hr.sm S2,pl,(hs.sm S').sm S2,hsl,fun H3 S3=>⟨_,_,rfl,rfl,_,rfl,_,rfl,_,rfl,_,_,_,rfl,r,q,_,sup,k,rfl,rfl,rfl,hr.sm (S2.trans S3),pl,((hs.sm S').sm S2).sm S3,hk,fun H4 S4=>⟨_,_,rfl,rfl,k' _ ((S2.trans S3).trans S4)⟩⟩⟩⟩
 ·rw [hlen] at hD
  refine maxI hD (by rw [zlm,List.length_range];exact Nat.two_pow_pos _) fun m hm hle=>?_
  rw [Chg.z2Z (cars:=S) hk (m:=m) ?_ ?_]
  ·exact k0 H' S'
  ·obtain ⟨j,hj,e⟩:=List.mem_map.mp hm
   exact ⟨_,Chg.zZz.mpr ⟨j,List.mem_range.mp hj,rfl⟩,e⟩
  ·intro Y hY
   obtain ⟨j,hj,rfl⟩:=Chg.zZz.mp hY
   exact hle _ (List.mem_map.mpr ⟨j,List.mem_range.mpr hj,rfl⟩)
abbrev CS2 (t:Adr) (a b:V) (H:Hp) (S:List Car) (sup:List Nat):Prop:=∃p q:Addr,a=.ref p∧b=.ref q∧zZB t H p S∧S.length≤6∧IL H q (zn sup)∧sup.length≤100
theorem z1P (l:List Nat):zn l=l.map fun (n:Nat)=>(n:Int):=rfl
inductive zUv (t:Adr) (a:V) (b:V) (H:Hp) (Q:VK):Prop
 | mk (S:_) (sup:_) (_:CS2 t a b H S sup) (_:RZ t H Q (zn (excL S sup))):zUv t a b H Q
theorem zW4 (T:Txt K mg t):Own P w K mg base 5 "excesses" ["cars", "supplies"] (Sp2 (zUv t)):=by
 refine own2 T.d_excesses zXX fun a b H Q h f cdv A outer s E hr=>?_
 obtain ⟨S,sup,⟨p,q,rfl,rfl,⟨as,h1,hc⟩,hl,hs,hsl⟩,k0⟩:=h
 refine ⟨_,(zV (zQ (zZf (own:=[("chosen", 2)]) rfl zXX.nd (yV K (zS (vP T) hr.o (zZ (pv 0) zY))) (yU rfl) (fun _ _ _ _ _=>(yZ (i:=2) zXX.nd)) (fun _ _ _ _ _=>y4) (fun _ _ _ _ _=>(zS (zVu T) hr.o (zZ (pv 2) (zZ (pv 1) zY))))))),?_⟩
 refine ⟨_,rfl,_,rfl,p,as,rfl,h1,by rw [hc.len];exact hl,fun E H1 S1 nE hN=>?_⟩
 obtain ⟨ps,g1,g2⟩:=hN.a
 refine ⟨E,rfl,⟨_,SqL.of g1⟩,fun D nD=>?_⟩
 have hc1:=wZ (t:=t) hc S1
 have hlen:(ps.map V.ref).length=2 ^ S.length:=by rw [zlm,g2.len,Chg.zRD,hc.len]
 refine zYz (Ts:=Ts t) (y6.seq (SqL.of g1)) nD (by rw [hlen];exact Nat.le_trans (zSq hl) (by decide)) (fun j=>((xY (pick S j)-uS (pick S j) sup:Nat):Int)) (fun j x H' Q' hj S' it k'=>?_) fun H' S' hD=>?_
 ·obtain ⟨r,rfl,_,hr⟩:=zTX g2 hc1 it
  exact ⟨rfl,_,rfl,_,rfl,_,_,rfl,r,q,_,sup,rfl,rfl,hr.sm S',Nat.le_trans (zYJ _ _) (by lia),(hs.sm S1).sm S',hsl,k'⟩
 ·refine k0 D H' (S1.trans S') (S1.free nD) ?_
  rw [hlen] at hD
  show H' D=some (.lst ((zn (excL S sup)).map V.int))
  rw [hD]
  unfold excL
  rw [Chg.zXj,z1P]
  simp only [List.map_map]
  rfl
inductive zYX (t:Adr) (a:V) (b:V) (H:Hp) (Q:VK):Prop
 | mk (S:_) (sup:_) (_:CS2 t a b H S sup) (_:RI t H Q (excess (tk S sup) (worst (tk S sup)):Nat)):zYX t a b H Q
theorem w4 (T:Txt K mg t):Own P w K mg base 6 "worst_excess" ["cars", "supplies"] (Sp2 (zYX t)):=by
 refine own2 T.d_worst_excess zUi fun a b H Q h f cdv A outer s E hr=>?_
 obtain ⟨S,sup,⟨p,q,rfl,rfl,hc,hl,hs,hsl⟩,k0⟩:=h
 refine ⟨_,(zV (zQ (yS (maxK K rfl) (by rfl) T.b_max (by decide +kernel) (zZ (zS (zW4 T) hr.o (zZ (pv 0) (zZ (pv 1) zY))) zY)))),?_⟩
 refine ⟨_,rfl,_,rfl,_,_,rfl,S,sup,⟨p,q,rfl,rfl,hc,hl,hs,hsl⟩,fun D H1 S1 nD hD=>maxI hD (by rw [z6,Chg.z2E];exact Nat.two_pow_pos _) fun m hm hle=>?_⟩
 obtain ⟨n,hn,rfl⟩:=List.mem_map.mp hm
 rw [Chg.z5p hn fun y hy=>Int.ofNat_le.mp (hle _ (List.mem_map.mpr ⟨y,hy,rfl⟩))]
 exact k0 H1 S1
inductive zWA (t:Adr) (a:V) (b:V) (H:Hp) (Q:VK):Prop
 | mk (S:_) (sup:_) (_:CS2 t a b H S sup) (_:RB t H Q (feasible (tk S sup))):zWA t a b H Q
theorem j7 (T:Txt K mg t):Own P w K mg base 7 "all_filled" ["cars", "supplies"] (Sp2 (zWA t)):=by
 refine own2 T.d_all_filled zTZ fun a b H Q h f cdv A outer s E hr=>?_
 obtain ⟨S,sup,⟨p,q,rfl,rfl,hc,hl,hs,hsl⟩,k0⟩:=h
 refine ⟨_,(zV (zQ (uV u5 (zS (w4 T) hr.o (zZ (pv 0) (zZ (pv 1) zY))) z3 (z9 _)))),?_⟩
 refine ⟨_,rfl,_,rfl,_,_,rfl,S,sup,⟨p,q,rfl,rfl,hc,hl,hs,hsl⟩,fun H1 S1=>⟨rfl,?_⟩⟩
 have e:decide (V.int ((excess (tk S sup) (worst (tk S sup)):Nat):Int)=V.int 0)=feasible (tk S sup):=by
  rw [zYj,Bool.eq_iff_iff,Chg.z23]
  simp
 rw [e]
 exact k0 H1 S1
inductive zW6 (t:Adr) (a:V) (b:V) (H:Hp) (Q:VK):Prop
 | mk (S:_) (sup:_) (_:CS2 t a b H S sup) (_:RI t H Q (worst (tk S sup):Nat)):zW6 t a b H Q
theorem zWb (T:Txt K mg t):Own P w K mg base 7 "worst_set" ["cars", "supplies"] (Sp2 (zW6 t)):=by
 refine own2 T.d_worst_set zSh fun a b H Q h f cdv A outer s E hr=>?_
 obtain ⟨S,sup,⟨p,q,rfl,rfl,hc,hl,hs,hsl⟩,k0⟩:=h
 refine ⟨_,(zV (zQ (zXp PySem.F.plainAttrs_list PySem.F.slot_list_index PySem.F.type_list_index (z1b K) (zS (zW4 T) hr.o (zZ (pv 0) (zZ (pv 1) zY))) (zZ (zS (w4 T) hr.o (zZ (pv 0) (zZ (pv 1) zY))) zY)))),?_⟩
 refine ⟨_,rfl,_,rfl,_,_,rfl,S,sup,⟨p,q,rfl,rfl,hc,hl,hs,hsl⟩,fun D H1 S1 nD hD=>⟨.inl ⟨rfl,_,SqL.of hD⟩,?_⟩⟩
 refine ⟨_,rfl,_,rfl,_,_,rfl,S,sup,⟨p,q,rfl,rfl,hc.sm S1,hl,hs.sm S1,hsl⟩,fun H2 S2=>?_⟩
 have wf:=Chg.zV4 (tk S sup)
 have wl:worst (tk S sup) < 2 ^ S.length:=by
  have:=wf.1
  rw [Chg.tk_n] at this
  exact this
 have get:∀a,a < 2 ^ S.length→((zn (excL S sup)).map V.int)[a]?=some (.int (excess (tk S sup) a:Nat)):=fun a ha=>by
  rw [zgm,zVg (Chg.zR1 ha)]
  rfl
 refine ⟨D,_,_,worst (tk S sup),_,rfl,rfl,SqL.of (hD.sm S2),rfl,?_,get _ wl,?_,?_,k0 H2 (S1.trans S2)⟩
 ·rw [List.all_eq_true]
  intro v hv
  obtain ⟨i,_,rfl⟩:=List.mem_map.mp hv
  rfl
 ·show ((_:Int) == _)=true
  rw [beq_self_eq_true]
 ·intro m z hm hz
  have hm2:m < 2 ^ S.length:=Nat.lt_trans hm wl
  rw [get m hm2] at hz
  rw [←zsi hz]
  have:=wf.2.2 m hm
  show ((_:Int) == _)=false
  rw [beq_eq_false_iff_ne]
  intro e
  have:=Int.ofNat.inj e
  lia
end
open PySem PySem.Spec PyProof.Rows L2
open GarText (Bytes isSmall isDigit isName valueOf numberIn decimal parted lineText joined ascii)
open GarPlug (Car Day)
theorem iEq {i j:Int} (q:decide (V.int i=V.int j)=true):i=j:=by
 rw [zYj] at q
 exact eq_of_beq q
theorem iNe {i j:Int} (q:decide (V.int i=V.int j)=false):i≠j:=fun e=>by
 rw [zYj,e,beq_self_eq_true] at q
 cases q
theorem zWF {α β:Type} (l:List α) (d:α) (f:α→β):(List.range l.length).map (fun j=>f (l.getD j d))=l.map f:=by
 refine List.ext_getElem (by simp) fun i h1 h2=>?_
 have hi:i < l.length:=by simpa using h1
 rw [List.getElem_map,List.getElem_map,List.getElem_range,List.getD_eq_getElem?_getD,zge hi]
 rfl
theorem zUS {α:Type} (l:List α) (d:α) (f:α→Bool):((List.range l.length).map (fun j=>f (l.getD j d))).all id=l.all f:=by
 rw [zWF,List.all_map]
 rfl
theorem z1h {α:Type} (l:List α) (d:α) (f:α→Bool):((List.range l.length).map (fun j=>f (l.getD j d))).any id=l.any f:=by
 rw [zWF,List.any_map]
 rfl
theorem z2B:(("0" : Str).cps.getD 0 0)=48:=by decide +kernel
theorem z5J:(("9" : Str).cps.getD 0 0)=57:=by decide +kernel
theorem z4g:(("a" : Str).cps.getD 0 0)=97:=by decide +kernel
theorem z5y:(("z" : Str).cps.getD 0 0)=122:=by decide +kernel
theorem byte_at {b:Bytes}{j:Nat}{x:V} (e:((zb b).map V.int)[j]?=some x):j < b.length∧x=.int ((b.getD j 0).toNat:Nat):=by
 have hj:j < b.length:=by
  have:=(List.getElem?_eq_some_iff.mp e).1
  rw [zlm,xT] at this
  exact this
 rw [zgm,z26 (zge hj)] at e
 rw [Chg.vX hj]
 exact ⟨hj,(zsi e).symm⟩
theorem IL.get0 {H:Hp}{p:Addr}{b:Bytes}{j:Nat}{K:Fg}{Q:VK} (h:IL H p (zb b)) (hj:j < b.length) (q:Q (.int ((b.getD j 0).toNat:Nat)) H):rIxL K (.ref p) (.int j) H Q:=
 zSO h (z26 (by rw [zge hj,Chg.vX hj])) q
section
variable {P:Program}{w:World}{K:Fg}{mg:Str→Option Value}{base:Heap}{t:Adr}
inductive zQy (t:Adr) (a:V) (H:Hp) (Q:VK):Prop
 | mk (x:Str) (_:a=.str x) (_:x.cps.size≤1000) (_:RZ t H Q (x.cps.toList.map fun (c:Nat)=>(c:Int))):zQy t a H Q
theorem k6 (T:Txt K mg t):Own P w K mg base 1 "signs" ["word"] (Sp1 (zQy t)):=by
 refine own1 T.d_signs zTF fun a H Q h f cdv A outer s E hr=>?_
 obtain ⟨x,rfl,hx,k0⟩:=h
 refine ⟨_,(zV (zQ (zZf (own:=[("sign", 1)]) rfl zTF.nd (z4H (pv 0)) (yU rfl) (fun _ _ _ _ _=>(yZ (i:=1) zTF.nd)) (fun _ _ _ _ _=>y4) (fun _ _ _ _ _=>(yS zYy (by rfl) T.b_ord (by decide +kernel) (zZ (pv 1) zY)))))),?_⟩
 refine ⟨_,rfl,x,rfl,fun D nD=>zYz (Ts:=Ts t) (y6.str x) nD (by lia) (fun j=>((x.cps.toList.getD j 0:Nat):Int)) (fun j v H' Q' hj S' it k'=>?_) fun H' S' hD=>?_⟩
 ·obtain ⟨c,e1,rfl⟩:=it
  refine ⟨rfl,_,rfl,_,rfl,rfl,?_⟩
  have e2:x.cps.toList.getD j 0=c:=by
   rw [List.getD_eq_getElem?_getD,Array.getElem?_toList,e1]
   rfl
  have:=k' H' (Sm.refl _)
  rw [e2] at this
  exact this
 ·refine k0 D H' S' nD ?_
  show H' D=_
  rw [hD,←Array.length_toList,zWF x.cps.toList 0 fun (c:Nat)=>(c:Int)]
inductive zUd (t:Adr) (a:V) (H:Hp) (Q:VK):Prop
 | mk (c:UInt8) (_:a=.int (c.toNat:Nat)) (_:RB t H Q (isDigit c)):zUd t a H Q
theorem zW9 (T:Txt K mg t):Own P w K mg base 1 "is_digit" ["byte"] (Sp1 (zUd t)):=by
 refine own1 T.d_is_digit zRc fun a H Q h f cdv A outer s E hr=>?_
 obtain ⟨c,rfl,k0⟩:=h
 refine ⟨_,(zV (zQ (zWq (uV zVA (yS zYy (by rfl) T.b_ord (by decide +kernel) (zZ zZN zY)) (pv 0) (z9 _)) (zVf (uV zVA (pv 0) (yS zYy (by rfl) T.b_ord (by decide +kernel) (zZ zZN zY)) (z9 _)))))),?_⟩
 have k1:=k0 H (Sm.refl _)
 unfold isDigit at k1
 refine ⟨_,rfl,rfl,_,rfl,_,_,rfl,rfl,_,rfl,itP (fun q=>?_) fun q=>?_⟩
 ·rw [z2B] at q
  rw [decide_eq_true (Int.ofNat_le.mp q),Bool.true_and] at k1
  refine ⟨_,rfl,_,rfl,rfl,_,_,rfl,rfl,?_⟩
  rw [z5J]
  show Q (.bl (decide ((c.toNat:Int)≤((57:Nat):Int)))) H
  have e:decide ((c.toNat:Int)≤((57:Nat):Int))=decide (c.toNat≤57):=by
   rw [Bool.eq_iff_iff,zde,zde]
   lia
  rw [e]
  exact k1
 ·rw [z2B] at q
  rw [decide_eq_false (fun z=>q (Int.ofNat_le.mpr z)),Bool.false_and] at k1
  exact k1
inductive zVr (t:Adr) (a:V) (H:Hp) (Q:VK):Prop
 | mk (c:UInt8) (_:a=.int (c.toNat:Nat)) (_:RB t H Q (isSmall c)):zVr t a H Q
theorem zX0 (T:Txt K mg t):Own P w K mg base 1 "is_letter" ["byte"] (Sp1 (zVr t)):=by
 refine own1 T.d_is_letter zSi fun a H Q h f cdv A outer s E hr=>?_
 obtain ⟨c,rfl,k0⟩:=h
 refine ⟨_,(zV (zQ (zWq (uV zVA (yS zYy (by rfl) T.b_ord (by decide +kernel) (zZ zZN zY)) (pv 0) (z9 _)) (zVf (uV zVA (pv 0) (yS zYy (by rfl) T.b_ord (by decide +kernel) (zZ zZN zY)) (z9 _)))))),?_⟩
 have k1:=k0 H (Sm.refl _)
 unfold isSmall at k1
 refine ⟨_,rfl,rfl,_,rfl,_,_,rfl,rfl,_,rfl,itP (fun q=>?_) fun q=>?_⟩
 ·rw [z4g] at q
  rw [decide_eq_true (Int.ofNat_le.mp q),Bool.true_and] at k1
  refine ⟨_,rfl,_,rfl,rfl,_,_,rfl,rfl,?_⟩
  rw [z5y]
  show Q (.bl (decide ((c.toNat:Int)≤((122:Nat):Int)))) H
  have e:decide ((c.toNat:Int)≤((122:Nat):Int))=decide (c.toNat≤122):=by
   rw [Bool.eq_iff_iff,zde,zde]
   lia
  rw [e]
  exact k1
 ·rw [z4g] at q
  rw [decide_eq_false (fun z=>q (Int.ofNat_le.mpr z)),Bool.false_and] at k1
  exact k1
abbrev zVb (a:V) (H:Hp) (b:Bytes):Prop:=∃p:Addr,a=.ref p∧IL H p (zb b)∧b.length≤5000
inductive zTc (t:Adr) (a:V) (H:Hp) (Q:VK):Prop
 | mk (b:Bytes) (_:zVb a H b) (_:RB t H Q (isName b)):zTc t a H Q
theorem zXU (T:Txt K mg t):Own P w K mg base 2 "is_name" ["word"] (Sp1 (zTc t)):=by
 refine own1 T.d_is_name zWL fun a H Q h f cdv A outer s E hr=>?_
 obtain ⟨b,⟨p,rfl,hw,hl⟩,k0⟩:=h
 refine ⟨_,(zW (yO (zTP (z8 u5 (y8 K T.b_len (zZ (pv 0) zY)) z3 (z9 _)) (zTP (z8 zT1 (y8 K T.b_len (zZ (pv 0) zY)) (z5 T.g_MOST_NAME_BYTES) (z9 _)) (zTj (zZD (k5 (zS (zX0 T) hr.o (zZ (yP (z4 K) (pv 0) z3 (fun _ _=>rfl)) zY))))))).pt (zV (zQ zQU)) z7)
   (zV (zQ (yS (allK K rfl) (by rfl) T.b_all (by decide +kernel) (zZ (zZf (own:=[("byte", 1)]) rfl zWL.nd (yV K (pv 0)) (yU rfl) (fun _ _ _ _ _=>(yZ (i:=1) zWL.nd)) (fun _ _ _ _ _=>y4) (fun _ _ _ _ _=>(z5F (zS (zX0 T) hr.o (zZ (pv 1) zY)) (zVf (zS (zW9 T) hr.o (zZ (pv 1) zY)))))) zY))))),?_⟩
 refine ⟨_,rfl,lenI hw ⟨rfl,_,rfl,itB (fun q=>iteT ?_) fun q=>?_⟩⟩
 ·have e:b=[]:=List.length_eq_zero_iff.mp (by have:=iEq q;rw [xT] at this;lia)
  rw [e] at k0
  exact k0 H (Sm.refl _)
 ·have n0:=iNe q
  rw [xT] at n0
  refine ⟨_,rfl,lenI hw ⟨_,_,rfl,rfl,_,rfl,itP (fun q2=>iteT ?_) fun q2=>?_⟩⟩
  ·rw [xT] at q2
   have e:isName b=false:=by
    unfold isName
    split
    ·rfl
    ·rename_i c r
     rw [decide_eq_false (by lia:¬(c::r).length≤12),Bool.and_false,Bool.and_false]
   rw [e] at k0
   exact k0 H (Sm.refl _)
  ·rw [xT] at q2
   have h0:0 < b.length:=by lia
   have e0:isName b=(isSmall (b.getD 0 0) && b.all fun x=>isSmall x || isDigit x):=by
    cases b with
    | nil=>exact absurd h0 (by decide)
    | cons c r=>
     show (isSmall c && (r.all (fun x=>isSmall x || isDigit x) && decide ((c::r).length≤12)))=(isSmall c && ((isSmall c || isDigit c) && r.all fun x=>isSmall x || isDigit x))
     rw [decide_eq_true (by lia:(c::r).length≤12),Bool.and_true]
     cases isSmall c<;>simp
   refine ⟨_,rfl,IL.get0 (j:=0) hw h0 ⟨_,rfl,_,rfl,fun H1 S1=>⟨_,rfl,?_⟩⟩⟩
   cases e1:isSmall (b.getD 0 0) with
   | false=>
    rw [e0,e1,Bool.false_and] at k0
    exact k0 H1 S1
   | true=>
    rw [e0,e1,Bool.true_and] at k0
    have hw1:=hw.sm (t:=t) S1
    refine ⟨_,rfl,p,rfl,⟨_,SqL.of hw1⟩,fun D nD=>zXJ (Ts:=Ts t) (y6.seq (SqL.of hw1)) nD (by rw [zlm,xT];lia) (fun j=>isSmall (b.getD j 0) || isDigit (b.getD j 0)) (fun j v H' Q' hj S' it k'=>?_) fun H' S' hD=>?_⟩
    ·obtain ⟨_,rfl⟩:=byte_at it
     refine ⟨rfl,_,rfl,_,rfl,_,rfl,fun H2 S2=>⟨_,rfl,?_⟩⟩
     cases e2:isSmall (b.getD j 0) with
     | true=>
      rw [e2] at k'
      exact k' H2 S2
     | false=>
      rw [e2] at k'
      exact ⟨_,rfl,_,rfl,_,rfl,fun H3 S3=>k' H3 (S2.trans S3)⟩
    ·rw [zlm,xT] at hD
     refine allB hD ?_
     rw [zUS b 0 fun x=>isSmall x || isDigit x]
     exact k0 H' (S1.trans S')
theorem zSV (b:Bytes):Chg.isNum b=(decide (b≠[]∧b.length≤9) && (!(decide (1 < b.length) && decide (b.getD 0 0=48)) && b.all isDigit)):=by
 unfold Chg.isNum numberIn
 cases b with
 | nil=>rfl
 | cons c r=>
  have e:(List.head? (c::r)=some 48→(c::r).length=1)↔¬(1 < (c::r).length∧(c::r).getD 0 0=48):=by
   show (some c=some 48→r.length+1=1)↔¬(1 < r.length+1∧c=48)
   constructor
   ·rintro h ⟨h1,h2⟩
    have:=h (by rw [h2])
    lia
   ·intro h h2
    cases r with
    | nil=>rfl
    | cons d r=>exact absurd ⟨by simp,zsi h2⟩ h
  by_cases q:(c::r)≠[]∧(c::r).length≤9∧(c::r).all isDigit=true∧(List.head? (c::r)=some 48→(c::r).length=1)
  ·rw [if_pos q,decide_eq_true ⟨q.1,q.2.1⟩,q.2.2.1,Bool.true_and,Bool.and_true]
   have:=e.mp q.2.2.2
   rw [←Bool.decide_and,decide_eq_false this]
   rfl
  ·rw [if_neg q]
   symm
   show _=false
   rw [Bool.eq_false_iff]
   intro z
   rw [zbt,zbt,zde,←Bool.decide_and,Bool.not_eq_true',decide_eq_false_iff_not] at z
   exact q ⟨z.1.1,z.1.2,z.2.2,e.mpr z.2.1⟩
inductive zW8 (t:Adr) (a:V) (H:Hp) (Q:VK):Prop
 | mk (b:Bytes) (_:zVb a H b) (_:RB t H Q (Chg.isNum b)):zW8 t a H Q
theorem zWe (T:Txt K mg t):Own P w K mg base 2 "is_number" ["word"] (Sp1 (zW8 t)):=by
 refine own1 T.d_is_number zZJ fun a H Q h f cdv A outer s E hr=>?_
 obtain ⟨b,⟨p,rfl,hw,hl⟩,k0⟩:=h
 refine ⟨_,(zW (yO (zTP (z8 u5 (y8 K T.b_len (zZ (pv 0) zY)) z3 (z9 _)) (zTj (z8 zT1 (y8 K T.b_len (zZ (pv 0) zY)) (z5 T.g_MOST_DIGITS) (z9 _)))).pt (zV (zQ zQU)) z7)
   (zW (yY (i:=1) zZJ.nd (zWq (uV zT1 (y8 K T.b_len (zZ (pv 0) zY)) z3 (z9 _)) (zVf (uV u5 (yP (z4 K) (pv 0) z3 (fun _ _=>rfl)) (yS zYy (by rfl) T.b_ord (by decide +kernel) (zZ zZN zY)) (z9 _)))))
   (zV (zQ (zWq (z5c (pv 1)) (zVf (yS (allK K rfl) (by rfl) T.b_all (by decide +kernel) (zZ (zZf (own:=[("byte", 2)]) rfl zZJ.nd (yV K (pv 0)) (yU rfl) (fun _ _ _ _ _=>(yZ (i:=2) zZJ.nd)) (fun _ _ _ _ _=>y4) (fun _ _ _ _ _=>(zS (zW9 T) hr.o (zZ (pv 2) zY)))) zY)))))))),?_⟩
 rw [zSV] at k0
 refine ⟨_,rfl,lenI hw ⟨rfl,_,rfl,itB (fun q=>iteT ?_) fun q=>?_⟩⟩
 ·have e:b=[]:=List.length_eq_zero_iff.mp (by have:=iEq q;rw [xT] at this;lia)
  rw [e] at k0
  exact k0 H (Sm.refl _)
 ·have n0:=iNe q
  rw [xT] at n0
  have h0:0 < b.length:=by lia
  refine ⟨_,rfl,lenI hw ⟨_,_,rfl,rfl,_,rfl,itP (fun q2=>?_) fun q2=>?_⟩⟩
  ·rw [xT] at q2
   rw [decide_eq_false (fun z=>by have:=z.2;lia),Bool.false_and] at k0
   exact k0 H (Sm.refl _)
  ·rw [xT] at q2
   rw [decide_eq_true ⟨fun z=>by rw [z] at h0;exact absurd h0 (by decide),by lia⟩,Bool.true_and] at k0
   have e48:decide (V.int ((b.getD 0 0).toNat:Nat)=V.int (("0" : Str).cps.getD 0 0:Nat))=decide (b.getD 0 0=48):=by
    rw [zYj,z2B,Bool.eq_iff_iff,beq_iff_eq,zde]
    constructor
    ·intro z
     exact UInt8.toNat_inj.mp (Int.ofNat.inj z)
    ·intro z
     rw [z]
     rfl
   refine ⟨_,rfl,lenI hw ⟨_,_,rfl,rfl,_,rfl,itP (fun q3=>?_) fun q3=>?_⟩⟩
   ·rw [xT] at q3
    rw [decide_eq_true (by lia:1 < b.length),Bool.true_and,←e48] at k0
    refine ⟨_,rfl,IL.get0 (j:=0) hw h0 ⟨_,rfl,rfl,rfl,?_⟩⟩
    cases e:decide (V.int ((b.getD 0 0).toNat:Nat)=V.int (("0" : Str).cps.getD 0 0:Nat)) with
    | true=>
     rw [e] at k0
     exact ⟨_,rfl,_,rfl,_,rfl,k0 H (Sm.refl _)⟩
    | false=>
     rw [e] at k0
     refine ⟨_,rfl,_,rfl,_,rfl,_,rfl,p,rfl,⟨_,SqL.of hw⟩,fun D nD=>zXJ (Ts:=Ts t) (y6.seq (SqL.of hw)) nD (by rw [zlm,xT];lia) (fun j=>isDigit (b.getD j 0)) (fun j v H' Q' hj S' it k'=>?_) fun H' S' hD=>?_⟩
     ·obtain ⟨_,rfl⟩:=byte_at it
      exact ⟨rfl,_,rfl,_,rfl,_,rfl,k'⟩
     ·rw [zlm,xT] at hD
      refine allB hD ?_
      rw [zUS b 0 isDigit]
      exact k0 H' S'
   ·rw [xT] at q3
    rw [decide_eq_false (by lia:¬1 < b.length),Bool.false_and] at k0
    refine ⟨_,rfl,_,rfl,_,rfl,_,rfl,p,rfl,⟨_,SqL.of hw⟩,fun D nD=>zXJ (Ts:=Ts t) (y6.seq (SqL.of hw)) nD (by rw [zlm,xT];lia) (fun j=>isDigit (b.getD j 0)) (fun j v H' Q' hj S' it k'=>?_) fun H' S' hD=>?_⟩
    ·obtain ⟨_,rfl⟩:=byte_at it
     exact ⟨rfl,_,rfl,_,rfl,_,rfl,k'⟩
    ·rw [zlm,xT] at hD
     refine allB hD ?_
     rw [zUS b 0 isDigit]
     exact k0 H' S'
end
end Cc
namespace L2
open PySem PySem.Spec PyProof.Rows
theorem Sm.put {Ts:List uW}{H H1:Hp}{a:Addr}{xs:List V} (S:Sm Ts H H1) (n:H a=none) (e:H1 a=some (.lst xs)):Sm Ts (upd H a (.lst xs)) H1 where
 keep:=fun b o h p=>by
  by_cases q:b=a
  ·subst q
   rw [zX] at h
   rw [e,←zsi h]
  ·rw [zP q] at h
   exact S.keep b o h p
 tab:=fun b ps h=>by
  by_cases q:b=a
  ·subst q
   rw [zX] at h
   cases h
  ·rw [zP q] at h
   exact S.tab b ps h
 ok:=fun T=>S.ok fun L hL=>by
  obtain ⟨ps,e1,e2,e3⟩:=T L hL
  have n1:L.P≠a:=fun z=>by
   rw [z,zX] at e1
   cases e1
  rw [zP n1] at e1
  refine ⟨ps,e1,e2,?_⟩
  rcases e3 with e3|⟨c,e3,e4⟩
  ·exact .inl e3
  ·have n2:c≠a:=fun z=>by
    rw [z,zX] at e4
    cases e4
   rw [zP n2] at e4
   exact .inr ⟨c,e3,e4⟩
end L2
namespace Cc
open PySem PySem.Spec PyProof.Rows L2
open GarText (Bytes isSmall isDigit isName valueOf numberIn decimal parted lineText joined ascii)
open GarPlug (Car Day)
theorem zQO (b:Bytes) (c:UInt8):valueOf (b++[c])=10 * valueOf b+(c.toNat-48):=by
 unfold valueOf
 rw [List.foldl_append]
 rfl
theorem take_snoc {α:Type}{l:List α}{i:Nat} (d:α) (h:i < l.length):l.take (i+1)=l.take i++[l.getD i d]:=by
 rw [List.take_add_one,zge h,Chg.vX h]
 rfl
theorem zZ1 {b:Bytes} (h:Chg.isNum b=true):b.all isDigit=true∧b.length≤9:=by
 rw [zSV,zbt,zbt,zde] at h
 exact ⟨h.2.2,h.1.2⟩
theorem z2l {c:Char} (h:c.isDigit=true):c.toNat < 256:=by
 unfold Char.isDigit at h
 rw [zbt,zde,zde] at h
 have h2:=h.2
 rw [UInt32.le_iff_toNat_le] at h2
 exact Nat.lt_of_le_of_lt h2 (by decide)
theorem zQN (n:Nat):zb (decimal n)=((Nat.toDigits 10 n).map Char.toNat).map fun (c:Nat)=>(c:Int):=by
 unfold zb decimal
 rw [List.map_map,List.map_map]
 refine List.map_congr_left fun c hc=>?_
 have:=z2l (Nat.isDigit_of_mem_toDigits (by decide) (by decide) hc)
 show (((UInt8.ofNat c.toNat).toNat:Nat):Int)=((c.toNat:Nat):Int)
 rw [UInt8.toNat_ofNat_of_lt' this]
def LL (H:Hp) (a:Addr) (ws:List Bytes):Prop:=∃qs,RefL H a qs∧All2 (fun q x=>IL H q (zb x)) qs ws
theorem LL.sm {t:Adr}{H H':Hp}{a:Addr}{ws:List Bytes} (h:LL H a ws) (S:Sm (Ts t) H H'):LL H' a ws:=by
 obtain ⟨qs,h1,h2⟩:=h
 exact ⟨qs,h1.sm S,h2.imp fun _ _ r=>r.sm S⟩
def LLf (H0 H:Hp) (a:Addr) (ws:List Bytes):Prop:=∃qs,RefL H a qs∧All2 (fun q x=>IL H q (zb x)) qs ws∧∀q∈qs,H0 q=none
def glue (cur:Bytes):List Bytes→List Bytes
 | []=>[cur]
 | h::r=>(cur++h)::r
theorem z1k (c:UInt8) (cur r:Bytes):glue cur (parted c (c::r))=cur::glue [] (parted c r):=by
 have hn:=Chg.zV8 c r
 rw [parted]
 cases e:parted c r with
 | nil=>exact absurd e hn
 | cons h u=>
  show glue cur (if c=c then []::h::u else (c::h)::u)=_
  rw [if_pos rfl]
  show (cur++[])::h::u=cur::([]++h)::u
  rw [List.append_nil,List.nil_append]
theorem z0L {c x:UInt8} (hx:x≠c) (cur r:Bytes):glue cur (parted c (x::r))=glue (cur++[x]) (parted c r):=by
 have hn:=Chg.zV8 c r
 rw [parted]
 cases e:parted c r with
 | nil=>exact absurd e hn
 | cons h u=>
  show glue cur (if x=c then []::h::u else (x::h)::u)=_
  rw [if_neg hx]
  show (cur++x::h)::u=((cur++[x])++h)::u
  rw [zaa]
  rfl
theorem zV6 (s x:Bytes):∀{l:List Bytes},l≠[]→joined s (l++[x])=joined s l++(s++x)
 | [],h=>absurd rfl h
 | [y],_=>rfl
 | y::z::l,_=>by
  show y++(s++joined s ((z::l)++[x]))=(y++(s++joined s (z::l)))++(s++x)
  rw [zV6 s x (by simp)]
  simp only [zaa]
def tot (ws:List Bytes):Nat:=(ws.map fun b=>b.length+1).sum
theorem zUt (x y:Bytes):zb (x++y)=zb x++zb y:=List.map_append ..
theorem zY9:∀l:List Bytes,(joined [GarText.BLANK] l).length≤tot l
 | []=>Nat.zero_le _
 | [x]=>by
  show x.length≤x.length+1+0
  lia
 | x::y::l=>by
  have:=zY9 (y::l)
  show (x++([GarText.BLANK]++joined _ (y::l))).length≤x.length+1+tot (y::l)
  rw [zla,zla]
  simp only [List.length_singleton]
  lia
theorem z2M {b:Bytes}:∀{ws:List Bytes},b∈ws→b.length+1≤tot ws
 | x::ws,h=>by
  show b.length+1≤x.length+1+tot ws
  rcases List.mem_cons.mp h with q|q
  ·rw [q]
   lia
  ·have:=z2M q
   lia
theorem z11 (ws:List Bytes) (i:Nat):tot (ws.take i)≤tot ws:=by
 have:tot ws=tot (ws.take i)+tot (ws.drop i):=by
  unfold tot
  rw [←List.sum_append,←List.map_append,List.take_append_drop]
 lia
section
variable (xs:List V)
theorem uZ (k:Nat):cutV xs (some (k:Int)) none=xs.drop k:=by
 unfold cutV
 rw [HT.z5s,HT.z5j,List.take_of_length_le (by rw [List.length_drop];lia)]
 by_cases h:k≤xs.length
 ·rw [Nat.min_eq_left h]
 ·rw [Nat.min_eq_right (by lia),List.drop_length,List.drop_eq_nil_of_le (by lia)]
theorem zTT {i j:Nat} (h:j≤xs.length):cutV xs (some (i:Int)) (some (j:Int))=(xs.take j).drop i:=by
 unfold cutV
 rw [HT.z5s,HT.z5s,Nat.min_eq_left h,List.drop_take]
 by_cases h2:i≤xs.length
 ·rw [Nat.min_eq_left h2]
 ·rw [Nat.min_eq_right (by lia),List.drop_length,List.drop_eq_nil_of_le (by lia),List.take_nil,List.take_nil]
theorem zRV {j:Nat} (h:j≤xs.length):cutV xs none (some (j:Int))=xs.take j:=by
 unfold cutV
 rw [HT.z5j,HT.z5s,Nat.min_eq_left h]
 rfl
theorem z2m {i:Nat} (h:0 < xs.length):cutV xs (some (i:Int)) (some (-1))=xs.dropLast.drop i:=by
 have e:HT.sIx xs.length xs.length (some (-1))=xs.length-1:=by
  show (if (-1:Int) < 0 then ((-1:Int)+(xs.length:Int)).toNat else min (-1:Int).toNat xs.length)=_
  rw [if_pos (by decide)]
  lia
 unfold cutV
 rw [e,HT.z5s,List.dropLast_eq_take,List.drop_take]
 by_cases h2:i≤xs.length
 ·rw [Nat.min_eq_left h2]
 ·rw [Nat.min_eq_right (by lia),List.drop_length,List.drop_eq_nil_of_le (by lia),List.take_nil,List.take_nil]
end
section
variable {H:Hp}{l b:Addr}{ns ms:List Int}{z:Int}{Q:VK}{σ:L2.St}
theorem appI (h:IL H l ns) (hl:ns.length≤100000) (k:Q .non (upd H l (.lst ((ns++[z]).map V.int)))):tNil σ H fun xs H2=>zUy (.ref l) (.int z::xs) H2 Q:=by
 refine ⟨l,_,_,rfl,rfl,h,by rw [zlm,sizeLine_eq];lia,?_⟩
 rw [List.map_append] at k
 exact k
theorem appC (h:IL H l ns) (hl:ns.length≤100000) (k:Q .non (upd H l (.lst ((ns++[z]).map V.int)))):z4a (tC (.int z)) tNil σ H fun xs H2=>zUy (.ref l) xs H2 Q:=appI (σ:=σ) h hl k
theorem extI (h:IL H l ns) (h2:IL H b ms) (hl:ns.length+ms.length≤100000) (k:Q .non (upd H l (.lst ((ns++ms).map V.int)))):tNil σ H fun xs H2=>zTK (.ref l) (.ref b::xs) H2 Q:=by
 refine ⟨l,b,_,_,rfl,rfl,h,h2,by rw [zlm,zlm,sizeLine_eq];lia,?_⟩
 rw [List.map_append] at k
 exact k
end
section
variable {P:Program}{w:World}{K:Fg}{mg:Str→Option Value}{base:Heap}{t:Adr}
inductive zVl (t:Adr) (a:V) (H:Hp) (Q:VK):Prop
 | mk (b:Bytes) (_:zVb a H b) (_:b.all isDigit=true) (_:RI t H Q (valueOf b:Nat)):zVl t a H Q
theorem xV (T:Txt K mg t):Own P w K mg base 1 "number_of" ["word"] (Sp1 (zVl t)):=by
 refine own1 T.d_number_of zZG fun a H Q h f cdv A outer s E hr=>?_
 obtain ⟨b,⟨p,rfl,hw,hl⟩,hd,k0⟩:=h
 refine ⟨_,(zW (yY (i:=1) zZG.nd z3)
   (zW (kQ PassesOwn.never rfl (yV K (pv 0)) (yZ (i:=2) zZG.nd)
   (zV (yY (i:=1) zZG.nd (yQ zZL (yQ vR (yQ zUz z3 (pv 1)) (pv 2)) (yS zYy (by rfl) T.b_ord (by decide +kernel) (zZ zZN zY))))))
   (zV (zQ (pv 1))))),?_⟩
 refine ⟨_,rfl,p,rfl,⟨_,SqL.of hw⟩,k7 (Ts:=Ts t) (y6.seq (SqL.of hw)) (fun i σ H'=>Sm (Ts t) H H'∧∃oc,σ=[some (.ref p),some (.int (valueOf (b.take i):Nat)),oc]) (fun _ _ _ h=>h.1) ⟨Sm.refl _,none,rfl⟩ ?_ ?_⟩
 ·rintro i x σ H1 H2 hi ⟨S1,oc,rfl⟩ S2 it
  obtain ⟨hi,rfl⟩:=byte_at it
  refine ⟨_,rfl,_,_,rfl,rfl,.inl ⟨by decide,by decide⟩,_,rfl,_,_,rfl,rfl,_,rfl,rfl,_,_,rfl,rfl,S1.trans S2,some (.int ((b.getD i 0).toNat:Nat)),?_⟩
  have hc:isDigit (b.getD i 0)=true:=by
   rw [Chg.vX hi]
   exact List.all_eq_true.mp hd _ (List.getElem_mem hi)
  unfold isDigit at hc
  rw [zbt,zde,zde] at hc
  rw [take_snoc 0 hi,zQO,z2B]
  have e:(10:Int) * ((valueOf (b.take i):Nat):Int)+(((b.getD i 0).toNat:Nat):Int)-((48:Nat):Int)=((10 * valueOf (b.take i)+((b.getD i 0).toNat-48):Nat):Int):=by
   lia
  rw [←e]
  rfl
 ·rintro σ H1 ⟨S1,oc,rfl⟩
  rw [zlm,xT,List.take_length]
  exact ⟨_,rfl,k0 H1 S1⟩
inductive zZp (t:Adr) (a:V) (lo:V) (hi:V) (H:Hp) (Q:VK):Prop
 | mk (b:Bytes) (l m:Nat) (_:zVb a H b) (_:lo=.int l) (_:hi=.int m) (_:RB t H Q (Chg.numW l m b)):zZp t a lo hi H Q
theorem qU (T:Txt K mg t):Own P w K mg base 3 "is_number_within" ["word", "least", "most"] (Sp3 (zZp t)):=by
 refine own3 T.d_is_number_within zXY fun a lo hi H Q h f cdv A outer s E hr=>?_
 obtain ⟨b,l,m,⟨p,rfl,hw,hl⟩,rfl,rfl,k0⟩:=h
 refine ⟨_,(zV (zQ (zWq (zS (zWe T) hr.o (zZ (pv 0) zY)) (zWq (uV zVA (pv 1) (zS (xV T) hr.o (zZ (pv 0) zY)) (z9 _)) (zVf (uV zVA (zS (xV T) hr.o (zZ (pv 0) zY)) (pv 2) (z9 _))))))),?_⟩
 unfold Chg.numW at k0
 refine ⟨_,rfl,_,rfl,b,⟨p,rfl,hw,hl⟩,fun H1 S1=>⟨_,rfl,itB (fun q=>?_) fun q=>?_⟩⟩
 ·rw [q,Bool.true_and] at k0
  have hd:=(zZ1 q).1
  refine ⟨_,rfl,_,rfl,_,rfl,b,⟨p,rfl,hw.sm S1,hl⟩,hd,fun H2 S2=>⟨_,_,rfl,rfl,_,rfl,itP (fun q2=>?_) fun q2=>?_⟩⟩
  ·rw [decide_eq_true (Int.ofNat_le.mp q2),Bool.true_and] at k0
   refine ⟨_,rfl,_,rfl,b,⟨p,rfl,(hw.sm S1).sm S2,hl⟩,hd,fun H3 S3=>⟨_,rfl,_,_,rfl,rfl,?_⟩⟩
   have e:decide ((valueOf b:Int)≤(m:Int))=decide (valueOf b≤m):=by
    rw [Bool.eq_iff_iff,zde,zde]
    lia
   show Q (.bl (decide ((valueOf b:Int)≤(m:Int)))) H3
   rw [e]
   exact k0 H3 ((S1.trans S2).trans S3)
  ·rw [decide_eq_false (fun z=>q2 (Int.ofNat_le.mpr z)),Bool.false_and] at k0
   exact k0 H2 (S1.trans S2)
 ·rw [q,Bool.false_and] at k0
  exact k0 H1 S1
inductive zSa (t:Adr) (a:V) (H:Hp) (Q:VK):Prop
 | mk (n:Nat) (_:a=.int n) (_:n < 10 ^ 10) (_:RZ t H Q (zb (decimal n))):zSa t a H Q
theorem zXc (T:Txt K mg t):Own P w K mg base 2 "digits" ["number"] (Sp1 (zSa t)):=by
 refine own1 T.d_digits z1l fun a H Q h f cdv A outer s E hr=>?_
 obtain ⟨n,rfl,hn,k0⟩:=h
 refine ⟨_,(zV (zQ (zS (k6 T) hr.o (zZ (jS zSl (by rfl) T.b_str (by decide +kernel) (zZ (pv 0) zY)) zY)))),?_⟩
 have e:=PySem.W.KIN.signs_num n
 refine ⟨_,rfl,_,rfl,?_,_,rfl,_,rfl,?_,?_⟩
 ·show ((n:Int).natAbs).log2 < 1920
  rw [Int.natAbs_natCast]
  by_cases h0:n=0
  ·rw [h0]
   decide
  ·rw [Nat.log2_lt h0]
   exact Nat.lt_of_lt_of_le hn (Nat.le_trans (by decide:10 ^ 10≤2 ^ 40) (Nat.pow_le_pow_right (by decide) (by decide:40≤1920)))
 ·rw [←Array.length_toList,e,zlm]
  have:=PySem.W.KXf.digits_le (a:=(n:Int)) (Int.natCast_nonneg _) (by exact_mod_cast hn)
  rw [Int.natAbs_natCast] at this
  lia
 ·rw [e,←zQN]
  exact k0
inductive zQn (t:Adr) (a:V) (m:V) (H:Hp) (Q:VK):Prop
 | mk (b:Bytes) (c:UInt8) (_:zVb a H b) (_:m=.int (c.toNat:Nat)) (_:∀D H',Sm (Ts t) H H'→H D=none→LLf H H' D (parted c b)→Q (.ref D) H'):zQn t a m H Q
theorem zSQ (T:Txt K mg t):Own P w K mg base 1 "parts" ["row", "mark"] (Sp2 (zQn t)):=by
 refine own2 T.d_parts zWr fun a m H Q h f cdv A outer s E hr=>?_
 obtain ⟨b,c,⟨p,rfl,hw,hl⟩,rfl,k0⟩:=h
 refine ⟨_,(zW (yY (i:=2) zWr.nd (yX zY))
   (zW (yY (i:=3) zWr.nd (yX zY))
   (zW (kQ PassesOwn.never rfl (yV K (pv 0)) (yZ (i:=4) zWr.nd)
   (zV (yO (z8 u5 (pv 4) (pv 1) (z9 _)) (zW (jZ (zXp PySem.F.plainAttrs_list PySem.F.slot_list_append PySem.F.type_list_append zZy (pv 2) (zZ (pv 3) zY)))
   (zV (yY (i:=3) zWr.nd (yX zY)))) (zV (jZ (zXp PySem.F.plainAttrs_list PySem.F.slot_list_append PySem.F.type_list_append zZy (pv 3) (zZ (pv 4) zY)))))))
   (zW (jZ (zXp PySem.F.plainAttrs_list PySem.F.slot_list_append PySem.F.type_list_append zZy (pv 2) (zZ (pv 3) zY)))
   (zV (zQ (pv 2))))))),?_⟩
 refine ⟨sz rfl,fun F hF=>⟨sz rfl,fun r hr0=>?_⟩⟩
 have S0:Sm (Ts t) H (upd (upd H F (.lst [])) r (.lst [])):=(Sm.new hF).add hr0
 have nr:H r=none:=(Sm.new (Ts:=Ts t) (o:=.lst []) hF).free hr0
 have rF:r≠F:=(zT zX hr0).symm
 have hp:IL (upd (upd H F (.lst [])) r (.lst [])) p (zb b):=hw.sm S0
 have step:∀(H1:Hp) (F r:Addr) (qs:List Addr) (done:List Bytes) (cur:Bytes),Sm (Ts t) H H1→H F=none→RefL H1 F qs→All2 (fun q x=>IL H1 q (zb x)) qs done→(∀q∈qs,q≠F∧q≠r∧H q=none)→IL H1 r (zb cur)→r≠F→H r=none→
   Sm (Ts t) H (upd H1 F (.lst ((qs.map V.ref)++[.ref r])))∧RefL (upd H1 F (.lst ((qs.map V.ref)++[.ref r]))) F (qs++[r])∧All2 (fun q x=>IL (upd H1 F (.lst ((qs.map V.ref)++[.ref r]))) q (zb x)) (qs++[r]) (done++[cur]):=by
  intro H1 F r qs done cur S1 nF hF hqs hne hr1 hrF nr
  refine ⟨S1.acc nF hF,?_,?_⟩
  ·show upd _ F _ F=_
   rw [zX,List.map_append]
   rfl
  ·refine All2.app (All2.of hqs.len fun i q x e1 e2=>?_) (.cons ?_ .nil)
   ·show upd _ F _ q=_
    rw [zP (hne q (List.mem_of_getElem? e1)).1]
    exact hqs.get e1 e2
   ·show upd _ F _ r=_
    rw [zP hrF]
    exact hr1
 refine ⟨_,rfl,p,rfl,⟨_,SqL.of hp⟩,k7 (Ts:=Ts t) (H1:=H) (y6.seq (SqL.of hw)) (fun i σ H'=>Sm (Ts t) H H'∧∃F r qs done cur oc,σ=[some (.ref p),some (.int (c.toNat:Nat)),some (.ref F),some (.ref r),oc]∧H F=none∧H r=none∧r≠F∧RefL H' F qs∧All2 (fun q x=>IL H' q (zb x)) qs done∧(∀q∈qs,q≠F∧q≠r∧H q=none)∧IL H' r (zb cur)∧qs.length≤i∧cur.length≤i∧parted c b=done++glue cur (parted c (b.drop i))) (fun _ _ _ h=>h.1) ⟨S0,F,r,[],[],[],none,rfl,hF,nr,rF,?_,.nil,(fun q hq=>by cases hq),zX,Nat.le_refl _,Nat.le_refl _,?_⟩ ?_ ?_⟩
 ·show upd (upd H F (.lst [])) r (.lst []) F=_
  rw [zP rF.symm,zX]
  rfl
 ·rw [List.drop_zero,List.nil_append]
  cases e:parted c b with
  | nil=>exact absurd e (Chg.zV8 c b)
  | cons h u=>rfl
 ·rintro i x σ H1 H2 hi ⟨S1,F,r,qs,done,cur,oc,rfl,nF,nr,rF,hF,hqs,hne,hcur,hq1,hc1,hpt⟩ S2 it
  obtain ⟨hi,rfl⟩:=byte_at it
  have hF:=hF.sm (t:=t) S2
  have hcur:=hcur.sm (t:=t) S2
  have hqs:All2 (fun q x=>IL H2 q (zb x)) qs done:=hqs.imp fun _ _ h=>h.sm S2
  have hdrop:b.drop i=b.getD i 0::b.drop (i+1):=by
   rw [Chg.vX hi]
   exact List.drop_eq_getElem_cons hi
  rw [hdrop] at hpt
  refine ⟨_,rfl,_,rfl,rfl,_,rfl,itB (fun q=>?_) fun q=>?_⟩
  ·have ec:b.getD i 0=c:=UInt8.toNat_inj.mp (Int.ofNat.inj (iEq q))
   rw [ec,z1k] at hpt
   obtain ⟨S3,hF3,hq3⟩:=step H2 F r qs done cur (S1.trans S2) nF hF hqs hne hcur rF nr
   refine ⟨_,rfl,.inl ⟨rfl,_,SqL.of hF⟩,_,rfl,F,_,_,rfl,rfl,hF,by rw [zlm,sizeLine_eq];lia,sz rfl,fun r2 hr2=>?_⟩
   have S4:=S3.add (o:=.lst []) hr2
   refine ⟨S4,F,r2,qs++[r],done++[cur],[],_,rfl,nF,S3.free hr2,?_,hF3.sm (t:=t) (Sm.new hr2),hq3.imp fun _ _ h=>h.sm (t:=t) (Sm.new hr2),?_,zX,?_,Nat.zero_le _,?_⟩
   ·exact (zT hF3 hr2).symm
   ·intro q' hq'
    obtain ⟨k,hk⟩:=List.getElem?_of_mem hq'
    have hkl:=(List.getElem?_eq_some_iff.mp hk).1
    rw [hq3.len] at hkl
    have tr:=hq3.get hk (zge hkl)
    refine ⟨?_,zT tr hr2,?_⟩
    ·rcases List.mem_append.mp hq' with z|z
     ·exact (hne q' z).1
     ·rw [List.mem_singleton.mp z]
      exact rF
    ·rcases List.mem_append.mp hq' with z|z
     ·exact (hne q' z).2.2
     ·rw [List.mem_singleton.mp z]
      exact nr
   ·rw [zla]
    simp only [List.length_singleton]
    lia
   ·rw [hpt,zaa]
    rfl
  ·have ec:b.getD i 0≠c:=fun z=>iNe q (by rw [z])
   rw [z0L ec] at hpt
   refine ⟨_,rfl,.inl ⟨rfl,_,SqL.of hcur⟩,_,rfl,appI hcur (by rw [xT];lia) ?_⟩
   refine ⟨(S1.trans S2).acc nr hcur,F,r,qs,done,cur++[b.getD i 0],_,rfl,nF,nr,rF,?_,?_,hne,?_,by lia,?_,hpt⟩
   ·show upd _ r _ F=_
    rw [zP rF.symm]
    exact hF
   ·refine All2.of hqs.len fun j q' x e1 e2=>?_
    show upd _ r _ q'=_
    rw [zP (hne q' (List.mem_of_getElem? e1)).2.1]
    exact hqs.get e1 e2
   ·show upd _ r _ r=_
    rw [zX,zUt]
    rfl
   ·rw [zla]
    simp only [List.length_singleton]
    lia
 ·rintro σ H1 ⟨S1,F,r,qs,done,cur,oc,rfl,nF,nr,rF,hF,hqs,hne,hcur,hq1,hc1,hpt⟩
  rw [zlm,xT] at hpt hq1 hc1
  rw [List.drop_length] at hpt
  have hpt:parted c b=done++[cur]:=by
   rw [hpt]
   show done++[cur++[]]=_
   rw [List.append_nil]
  obtain ⟨S3,hF3,hq3⟩:=step H1 F r qs done cur S1 nF hF hqs hne hcur rF nr
  refine ⟨_,rfl,.inl ⟨rfl,_,SqL.of hF⟩,_,rfl,F,_,_,rfl,rfl,hF,by rw [zlm,sizeLine_eq];lia,_,rfl,k0 F _ S3 nF ⟨qs++[r],hF3,?_,?_⟩⟩
  ·rw [hpt]
   exact hq3
  ·intro q' hq'
   rcases List.mem_append.mp hq' with z|z
   ·exact (hne q' z).2.2
   ·rw [List.mem_singleton.mp z]
    exact nr
inductive zU9 (t:Adr) (a:V) (H:Hp) (Q:VK):Prop
 | mk (p:Addr) (ws:List Bytes) (_:a=.ref p) (_:LL H p ws) (_:ws≠[]) (_:ws.length≤1000) (_:tot ws≤50000) (_:RZ t H Q (zb (lineText ws))):zU9 t a H Q
theorem zYk (T:Txt K mg t):Own P w K mg base 1 "line_of" ["words"] (Sp1 (zU9 t)):=by
 refine own1 T.d_line_of zWY fun a H Q h f cdv A outer s E hr=>?_
 obtain ⟨p,ws,rfl,⟨qs,h1,h2⟩,hne,hl,ht,k0⟩:=h
 refine ⟨_,(zW (yY (i:=1) zWY.nd (jS (zVO K) (by rfl) T.b_list (by decide +kernel) (zZ (yP (z4 K) (pv 0) z3 (fun _ _=>rfl)) zY)))
   (zW (kQ PassesOwn.never rfl (yV K (y9 (xZ K) (pv 0) (xX z3) v8)) (yZ (i:=2) zWY.nd)
   (zW (jZ (zXp PySem.F.plainAttrs_list PySem.F.slot_list_append PySem.F.type_list_append zZy (pv 1) (zZ (z5 T.g_BLANK) zY)))
   (zV (jZ (zXp PySem.F.plainAttrs_list PySem.F.slot_list_extend PySem.F.type_list_extend kT (pv 1) (zZ (pv 2) zY))))))
   (zW (jZ (zXp PySem.F.plainAttrs_list PySem.F.slot_list_append PySem.F.type_list_append zZy (pv 1) (zZ (z5 T.g_LINE_END) zY)))
   (zV (zQ (pv 1)))))),?_⟩
 have h0:0 < ws.length:=by
  cases ws with
  | nil=>exact absurd rfl hne
  | cons _ _=>simp
 have hq0:0 < qs.length:=by rw [h2.len];exact h0
 have i0:IL H qs[0] (zb (ws.getD 0 [])):=by
  rw [Chg.vX h0]
  exact h2.get (zge hq0) (zge h0)
 refine ⟨_,rfl,jQ (k:=0) h1 (zge hq0) ⟨_,_,rfl,.inl (SqL.of i0),fun L hL=>?_⟩⟩
 have S0:Sm (Ts t) H (upd H L (.lst ((zb (ws.getD 0 [])).map V.int))):=Sm.new hL
 refine ⟨_,rfl,_,rfl,p,_,rfl,SqL.of (h1.sm S0),fun M hM=>?_⟩
 have c1:cutV (qs.map V.ref) (some 1) none=(qs.drop 1).map V.ref:=by
  rw [List.map_drop]
  exact uZ _ 1
 rw [c1]
 have nM:H M=none:=S0.free hM
 have S1:Sm (Ts t) H (upd (upd H L (.lst ((zb (ws.getD 0 [])).map V.int))) M (.lst ((qs.drop 1).map V.ref))):=S0.add hM
 have ML:L≠M:=zT zX hM
 have hMb:RefL (upd H M (.lst ((qs.drop 1).map V.ref))) M (qs.drop 1):=zX
 have SqM:SqL K (upd H M (.lst ((qs.drop 1).map V.ref))) M ((qs.drop 1).map V.ref):=SqL.of hMb
 refine ⟨M,rfl,⟨_,SqL.of zX⟩,k7 (Ts:=Ts t) (H1:=upd H M (.lst ((qs.drop 1).map V.ref))) (y6.seq SqM) (fun i σ H'=>Sm (Ts t) (upd H M (.lst ((qs.drop 1).map V.ref))) H'∧∃oc,σ=[some (.ref p),some (.ref L),oc]∧IL H' L (zb (joined [GarText.BLANK] (ws.take (i+1))))) (fun _ _ _ h=>h.1) ⟨S1.put nM zX,none,rfl,?_⟩ ?_ ?_⟩
 ·show upd _ M _ L=_
  rw [zP ML,zX]
  cases ws with
  | nil=>exact absurd rfl hne
  | cons x r=>rfl
 ·rintro i x σ H1 H2 hi ⟨S2,oc,rfl,hL1⟩ S3 it
  rw [zgm,List.getElem?_drop] at it
  have hi:1+i < ws.length:=by
   rw [zlm,List.length_drop,h2.len] at hi
   lia
  rw [zge (by rw [h2.len];exact hi)] at it
  obtain rfl:=(zsi it).symm
  have SH:Sm (Ts t) H H2:=(Sm.new nM).trans (S2.trans S3)
  have hq1:1+i < qs.length:=by rw [h2.len];exact hi
  have iw:IL H qs[1+i] (zb (ws.getD (1+i) [])):=by
   rw [Chg.vX hi]
   exact h2.get (zge _) (zge hi)
  have bd:=Nat.le_trans (zY9 (ws.take (i+1))) (z11 ws (i+1))
  have bd2:(ws.getD (1+i) []).length+1≤tot ws:=by
   rw [Chg.vX hi]
   exact z2M (List.getElem_mem hi)
  have hL2:=hL1.sm (t:=t) S3
  have nL:upd H M (.lst ((qs.drop 1).map V.ref)) L=none:=by
   rw [zP ML]
   exact hL
  refine ⟨_,rfl,.inl ⟨rfl,_,SqL.of hL2⟩,appC hL2 (by rw [xT];lia) ?_⟩
  refine ⟨_,rfl,.inl ⟨rfl,_,SqL.of zX⟩,_,rfl,extI (ms:=zb (ws.getD (1+i) [])) (l:=L) zX ?_ ?_ ?_⟩
  ·show upd H2 L _ _=_
   rw [zP (zT iw hL)]
   exact iw.sm (t:=t) SH
  ·rw [zla,xT,xT]
   simp only [List.length_singleton]
   lia
  ·rw [uT]
   refine ⟨(S2.trans S3).acc nL hL2,_,rfl,?_⟩
   show upd _ L _ L=_
   rw [zX,take_snoc [] (by lia:i+1 < ws.length),zV6 _ _ (by
    intro z
    have:=congrArg List.length z
    rw [List.length_take,List.length_nil] at this
    lia),zUt,zUt,Nat.add_comm 1 i,zaa]
   rfl
 ·rintro σ H1 ⟨S2,oc,rfl,hL1⟩
  have e:(List.map V.ref (qs.drop 1)).length+1=ws.length:=by
   rw [zlm,List.length_drop,h2.len]
   lia
  rw [e,List.take_length] at hL1
  have bd:=zY9 ws
  have nL:upd H M (.lst ((qs.drop 1).map V.ref)) L=none:=by
   rw [zP ML]
   exact hL
  refine ⟨_,rfl,.inl ⟨rfl,_,SqL.of hL1⟩,appC hL1 (by rw [xT];lia) ⟨_,rfl,k0 L _ ((Sm.new nM).trans (S2.acc nL hL1)) hL ?_⟩⟩
  show upd _ L _ L=_
  rw [zX]
  unfold lineText
  rw [zUt]
  rfl
end
open PySem PySem.Spec PyProof.Rows L2
open GarText (Bytes)
open GarPlug (Car Day)
theorem zQa {nm sp pr cs cs':Addr}:putF "cars" (.ref cs') (dayF nm sp pr cs)=dayF nm sp pr cs':=rfl
section
variable {P:Program}{w:World}{K:Fg}{mg:Str→Option Value}{base:Heap}{t:Adr}
def z5u (t:Adr):Sp:=fun vs H Q _=>∃(x dx nm:Addr) (c:Car),vs=[.ref x,.ref nm,.int c.from_,.int c.to_,.int c.need,.int c.rate]∧H x=some (.ins t.CC dx [])∧Q .non (upd H x (.ins t.CC dx (carF nm c)))
def z5v (t:Adr):Sp:=fun vs H Q _=>∃(x dx nm sp pr cs:Addr),vs=[.ref x,.ref nm,.ref sp,.ref pr,.ref cs]∧H x=some (.ins t.CD dx [])∧Q .non (upd H x (.ins t.CD dx (dayF nm sp pr cs)))
def z5a (t:Adr):Sp:=fun vs H Q _=>∃(x dx:Addr),vs=[.ref x]∧H x=some (.ins t.CP dx [])∧Q .non (upd H x (.ins t.CP dx [("day", .non)]))
theorem zRI (T:Txt K mg t):OwnC P w K mg base 1 "Car" t.CC ["self", "name", "comes", "leaves", "need", "rate"] (z5u t):=by
 obtain ⟨f,fd,F,m,M⟩:=T.i_Car
 refine ⟨f,fd,F.ok zRC (fun vs H Q E ⟨x,dx,nm,c,e,_⟩=>by rw [e];rfl) (fun cdv A outer s H vs Q E hr h=>?_),m,M,F.binds fun _ _ _ _ _ _ us hl=>match us,hl with|[_,_,_,_,_,_],_=>rfl⟩
 obtain ⟨x,dx,nm,c,rfl,hx,q⟩:=h
 refine ⟨_,(zW (zZ0 (pv 0) (pv 1) rfl)
   (zW (zZ0 (pv 0) (pv 2) rfl)
   (zW (zZ0 (pv 0) (pv 3) rfl)
   (zW (zZ0 (pv 0) (pv 4) rfl)
   (zV (zZ0 (pv 0) (pv 5) rfl)))))),?_⟩
 refine ⟨_,rfl,_,rfl,x,_,dx,_,rfl,hx,T.k_Car.cl,T.k_Car.no _ (by decide +kernel),Nat.le_of_ble_eq_true rfl,?_⟩
 refine ⟨_,rfl,_,rfl,x,_,dx,_,rfl,zX,T.k_Car.cl,T.k_Car.no _ (by decide +kernel),Nat.le_of_ble_eq_true rfl,?_⟩
 refine ⟨_,rfl,_,rfl,x,_,dx,_,rfl,zX,T.k_Car.cl,T.k_Car.no _ (by decide +kernel),Nat.le_of_ble_eq_true rfl,?_⟩
 refine ⟨_,rfl,_,rfl,x,_,dx,_,rfl,zX,T.k_Car.cl,T.k_Car.no _ (by decide +kernel),Nat.le_of_ble_eq_true rfl,?_⟩
 refine ⟨_,rfl,_,rfl,x,_,dx,_,rfl,zX,T.k_Car.cl,T.k_Car.no _ (by decide +kernel),Nat.le_of_ble_eq_true rfl,?_⟩
 rw [uT,uT,uT,uT]
 exact q
theorem z1n (T:Txt K mg t):OwnC P w K mg base 1 "Day" t.CD ["self", "name", "supplies", "prices", "cars"] (z5v t):=by
 obtain ⟨f,fd,F,m,M⟩:=T.i_Day
 refine ⟨f,fd,F.ok zRP (fun vs H Q E ⟨x,dx,nm,sp,pr,cs,e,_⟩=>by rw [e];rfl) (fun cdv A outer s H vs Q E hr h=>?_),m,M,F.binds fun _ _ _ _ _ _ us hl=>match us,hl with|[_,_,_,_,_],_=>rfl⟩
 obtain ⟨x,dx,nm,sp,pr,cs,rfl,hx,q⟩:=h
 refine ⟨_,(zW (zZ0 (pv 0) (pv 1) rfl)
   (zW (zZ0 (pv 0) (pv 2) rfl)
   (zW (zZ0 (pv 0) (pv 3) rfl)
   (zV (zZ0 (pv 0) (pv 4) rfl))))),?_⟩
 refine ⟨_,rfl,_,rfl,x,_,dx,_,rfl,hx,T.k_Day.cl,T.k_Day.no _ (by decide +kernel),Nat.le_of_ble_eq_true rfl,?_⟩
 refine ⟨_,rfl,_,rfl,x,_,dx,_,rfl,zX,T.k_Day.cl,T.k_Day.no _ (by decide +kernel),Nat.le_of_ble_eq_true rfl,?_⟩
 refine ⟨_,rfl,_,rfl,x,_,dx,_,rfl,zX,T.k_Day.cl,T.k_Day.no _ (by decide +kernel),Nat.le_of_ble_eq_true rfl,?_⟩
 refine ⟨_,rfl,_,rfl,x,_,dx,_,rfl,zX,T.k_Day.cl,T.k_Day.no _ (by decide +kernel),Nat.le_of_ble_eq_true rfl,?_⟩
 rw [uT,uT,uT]
 exact q
theorem z2i (T:Txt K mg t):OwnC P w K mg base 1 "Park" t.CP ["self"] (z5a t):=by
 obtain ⟨f,fd,F,m,M⟩:=T.i_Park
 refine ⟨f,fd,F.ok zSw (fun vs H Q E ⟨x,dx,e,_⟩=>by rw [e];rfl) (fun cdv A outer s H vs Q E hr h=>?_),m,M,F.binds fun _ _ _ _ _ _ us hl=>match us,hl with|[_],_=>rfl⟩
 obtain ⟨x,dx,rfl,hx,q⟩:=h
 refine ⟨_,(zV (zZ0 (pv 0) z29 rfl)),?_⟩
 exact ⟨_,rfl,x,_,dx,_,rfl,hx,T.k_Park.cl,T.k_Park.no _ (by decide +kernel),Nat.le_of_ble_eq_true rfl,q⟩
theorem zWT {H1:Hp}{x dx:Addr}{o:HO} (hx:H1 x=none) (hd:H1 dx=none) (hn:dx≠x):Sm (Ts t) H1 (upd (upd H1 dx (.own x)) x o):=(Sm.new hd).add (by rw [zP hn.symm];exact hx)
end
end Cc
namespace L2
open PySem PySem.Spec PyProof.Rows
theorem Room.units65 {k:Nat}{A:Around} (r:Room k A):A.units+65 < cLine:=by have:=r.un;lia
end L2
namespace Cc
open PySem PySem.Spec PyProof.Rows L2
open GarText (Bytes isSmall isDigit isName valueOf numberIn decimal parted lineText joined ascii)
open GarPlug (Car Day)
open Chg (w1 zYO fRow fCar zWG zZZ numW isNum kindAt lns slotsOf namesOf uY nums zVC)
theorem nEq {i j:Int} (q:(!decide (V.int i=V.int j))=true):i≠j:=iNe (by simpa using q)
theorem nNe {i j:Int} (q:(!decide (V.int i=V.int j))=false):i=j:=iEq (by simpa using q)
theorem z5b {x y:Bytes} (h:zb x=zb y):x=y:=by
 refine List.ext_getElem? fun i=>?_
 have e:=congrArg (fun l=>l[i]?) h
 unfold zb at e
 simp only [zgm] at e
 cases e1:x[i]?<;>cases e2:y[i]?<;>rw [e1,e2] at e<;>simp at e
 rename_i a b
 rw [UInt8.toNat_inj.mp (by lia:a.toNat=b.toNat)]
def bD (b:Bytes):PyData:=.list ((zb b).map PyData.int)
theorem z2R:∀ws:List Bytes,PyData.canLayAll0 (ws.map bD)=true
 | []=>rfl
 | b::r=>by
  have:=z2R r
  simp [PyData.canLayAll0,bD,PyData.canLay0,PySem.W.ke_canLayAll0,this]
theorem z0V:∀ws:List Bytes,PyData.depthAll (ws.map bD)≤1
 | []=>by simp [PyData.depthAll]
 | b::r=>by
  have:=z0V r
  simp [PyData.depthAll,bD,PyData.depth,PySem.W.ke_depthAll]
  lia
theorem zUU (ws:List Bytes):SeqAt.shaped (.list (ws.map bD))=true:=by
 have:=z0V ws
 unfold SeqAt.shaped
 rw [PyData.canLay0,z2R,Bool.true_and,zde,PyData.depth]
 lia
theorem z0r (x y:Bytes):PyData.eqv (bD x) (bD y)=decide (x=y):=by
 unfold bD
 rw [PyData.eqv,PySem.W.ked_eqvAll,Bool.eq_iff_iff,zde,zde]
 exact ⟨z5b,fun h=>by rw [h]⟩
theorem z4M:∀ws vs:List Bytes,PyData.eqvAll (ws.map bD) (vs.map bD)=decide (ws=vs)
 | [],[]=>by simp [PyData.eqvAll]
 | [],_::_=>by simp [PyData.eqvAll]
 | _::_,[]=>by simp [PyData.eqvAll]
 | a::r,b::u=>by
  simp only [List.map_cons,PyData.eqvAll,z0r,z4M r u]
  by_cases h:a=b<;>by_cases h':r=u<;>simp [h,h']
section
variable {K:Fg}{H:Hp}{a b:Addr}{x y:Bytes}{ws vs:List Bytes}{Q:VK}
theorem dpI (h:IL H a (zb x)):Dp K H (.ref a) (bD x):=by
 refine .lst (SqL.of h) ?_
 generalize zb x=ns
 induction ns with
 | nil=>exact .nil
 | cons n r ih=>exact .cons (.int n) ih
theorem dpL (h:LL H a ws):Dp K H (.ref a) (.list (ws.map bD)):=by
 obtain ⟨qs,h1,h2⟩:=h
 refine .lst (SqL.of h1) ?_
 clear h1
 induction h2 with
 | nil=>exact .nil
 | cons r _ ih=>exact .cons (dpI r) ih
theorem neB (h:IL H a (zb x)) (h2:IL H b (zb y)) (q:Q (.bl (!decide (x=y))) H):rNeD K (.ref a) (.ref b) H Q:=⟨_,_,dpI h,dpI h2,PySem.W.ke_shaped_ints _,PySem.W.ke_shaped_ints _,by rw [z0r];exact q⟩
theorem eqB (h:IL H a (zb x)) (h2:IL H b (zb y)) (q:Q (.bl (decide (x=y))) H):rEqD K (.ref a) (.ref b) H Q:=⟨_,_,dpI h,dpI h2,PySem.W.ke_shaped_ints _,PySem.W.ke_shaped_ints _,by rw [z0r];exact q⟩
theorem neL (h:LL H a ws) (h2:LL H b vs) (q:Q (.bl (!decide (ws=vs))) H):rNeD K (.ref a) (.ref b) H Q:=⟨_,_,dpL h,dpL h2,zUU _,zUU _,by rw [PyData.eqv,z4M];exact q⟩
theorem zT2 {i:Nat} (h:LL H a ws) (hi:i < ws.length) (k:∀r,IL H r (zb (w1 ws i))→Q (.ref r) H):rIxL K (.ref a) (.int i) H Q:=by
 obtain ⟨qs,h1,h2⟩:=h
 have hq:i < qs.length:=by rw [h2.len];exact hi
 refine jQ h1 (zge hq) (k _ ?_)
 unfold w1
 rw [Chg.vX hi]
 exact h2.get (zge hq) (zge hi)
theorem qQ {i:Nat}{σ:L2.St} (h:LL H a ws) (hi:i < ws.length) (k:∀r,IL H r (zb (w1 ws i))→Q (.ref r) H):tC (.int i) σ H fun y H2=>rIxL K (.ref a) y H2 Q:=zT2 h hi k
theorem LL.len (h:LL H a ws) {σ:L2.St} (q:Q (.int ws.length) H):tNil σ H fun xs H2=>rLen K (.ref a::xs) H2 Q:=by
 obtain ⟨qs,h1,h2⟩:=h
 exact lenR h1 (by rw [h2.len];exact q)
end
theorem z0M:(("day" : Str).cps.toList.map fun (c:Nat)=>(c:Int))=zb (ascii "day"):=by decide +kernel
theorem z1Q:(("car" : Str).cps.toList.map fun (c:Nat)=>(c:Int))=zb (ascii "car"):=by decide +kernel
theorem zTk:(("supply" : Str).cps.toList.map fun (c:Nat)=>(c:Int))=zb (ascii "supply"):=by decide +kernel
theorem zSI:(("price" : Str).cps.toList.map fun (c:Nat)=>(c:Int))=zb (ascii "price"):=by decide +kernel
def Small (ws:List Bytes):Prop:=ws.length≤5000∧∀b∈ws,b.length≤5000
theorem Small.w {ws:List Bytes} (h:Small ws) (i:Nat):(w1 ws i).length≤5000:=by
 unfold w1
 by_cases q:i < ws.length
 ·rw [Chg.vX q]
  exact h.2 _ (List.getElem_mem q)
 ·rw [List.getD_eq_getElem?_getD,List.getElem?_eq_none (by lia)]
  exact Nat.zero_le _
theorem zZF (c:UInt8):∀b:Bytes,(parted c b).length≤b.length+1∧∀x∈parted c b,x.length≤b.length
 | []=>by
  rw [parted]
  exact ⟨Nat.le_refl _,fun x hx=>by rw [List.mem_singleton.mp hx];exact Nat.le_refl _⟩
 | y::r=>by
  obtain ⟨h1,h2⟩:=zZF c r
  rw [parted]
  cases e:parted c r with
  | nil=>exact absurd e (Chg.zV8 c r)
  | cons h u=>
   rw [e] at h1 h2
   rw [zlc] at h1
   show (if y=c then []::h::u else (y::h)::u).length≤_∧_
   by_cases q:y=c
   ·rw [if_pos q]
    refine ⟨by simp only [zlc];lia,fun x hx=>?_⟩
    have hx:x∈([]::h::u:List Bytes):=by
     have:(match h::u with
      | []=>[[y]]
      | h::u=>if y=c then []::h::u else (y::h)::u)=[]::h::u:=if_pos q
     rw [←this]
     exact hx
    rcases List.mem_cons.mp hx with z|z
    ·rw [z]
     exact Nat.zero_le _
    ·have:=h2 x z
     rw [zlc]
     lia
   ·rw [if_neg q]
    refine ⟨by simp only [zlc];lia,fun x hx=>?_⟩
    have hx:x∈((y::h)::u:List Bytes):=by
     have:(match h::u with
      | []=>[[y]]
      | h::u=>if y=c then []::h::u else (y::h)::u)=(y::h)::u:=if_neg q
     rw [←this]
     exact hx
    rcases List.mem_cons.mp hx with z|z
    ·have:=h2 h (List.mem_cons_self ..)
     rw [z,zlc,zlc]
     lia
    ·have:=h2 x (zmc _ z)
     rw [zlc]
     lia
def LLL (H:Hp) (a:Addr) (L:List (List Bytes)):Prop:=∃qs,RefL H a qs∧All2 (LL H) qs L
theorem LLL.sm {t:Adr}{H H':Hp}{a:Addr}{L:List (List Bytes)} (h:LLL H a L) (S:Sm (Ts t) H H'):LLL H' a L:=by
 obtain ⟨qs,h1,h2⟩:=h
 exact ⟨qs,h1.sm S,h2.imp fun _ _ r=>r.sm S⟩
def LLF (F:Addr→Prop) (H:Hp) (a:Addr) (ws:List Bytes):Prop:=∃qs,RefL H a qs∧All2 (fun q x=>IL H q (zb x)∧F q) qs ws
def LLLF (F:Addr→Prop) (H:Hp) (a:Addr) (L:List (List Bytes)):Prop:=∃qs,RefL H a qs∧All2 (LLF F H) qs L
theorem LLF.ll {F:Addr→Prop}{H:Hp}{a:Addr}{ws:List Bytes} (h:LLF F H a ws):LL H a ws:=by
 obtain ⟨qs,h1,h2⟩:=h
 exact ⟨qs,h1,h2.imp fun _ _ r=>r.1⟩
theorem LLLF.ll {F:Addr→Prop}{H:Hp}{a:Addr}{L:List (List Bytes)} (h:LLLF F H a L):LLL H a L:=by
 obtain ⟨qs,h1,h2⟩:=h
 exact ⟨qs,h1,h2.imp fun _ _ r=>r.ll⟩
theorem LLF.sm {F:Addr→Prop}{t:Adr}{H H':Hp}{a:Addr}{ws:List Bytes} (h:LLF F H a ws) (S:Sm (Ts t) H H'):LLF F H' a ws:=by
 obtain ⟨qs,h1,h2⟩:=h
 exact ⟨qs,h1.sm S,h2.imp fun _ _ r=>⟨r.1.sm S,r.2⟩⟩
theorem LLLF.sm {F:Addr→Prop}{t:Adr}{H H':Hp}{a:Addr}{L:List (List Bytes)} (h:LLLF F H a L) (S:Sm (Ts t) H H'):LLLF F H' a L:=by
 obtain ⟨qs,h1,h2⟩:=h
 exact ⟨qs,h1.sm S,h2.imp fun _ _ r=>r.sm S⟩
theorem zXG:∀(l:List V),(∀(j:Nat) (y:V),l[j]?=some y→∃q:Addr,y=V.ref q)→∃qs:List Addr,l=qs.map V.ref
 | [],_=>⟨[],rfl⟩
 | y::l,hh=>by
  obtain ⟨q,rfl⟩:=hh 0 _ rfl
  obtain ⟨qs,rfl⟩:=zXG l fun j z ej=>hh (j+1) z ej
  exact ⟨q::qs,rfl⟩
section
variable {P:Program}{w:World}{K:Fg}{mg:Str→Option Value}{base:Heap}{t:Adr}
theorem zXs {H:Hp}{ps:List Addr}{β:Type}{Z:List β}{R:Addr→β→Prop} (h:All2 R ps Z) {j:Nat}{x:V} (e:(ps.map V.ref)[j]?=some x):∃p z,x=.ref p∧ps[j]?=some p∧Z[j]?=some z∧R p z:=by
 rw [zgm] at e
 cases q:ps[j]? with
 | none=>
  rw [q] at e
  cases e
 | some p=>
  rw [q] at e
  have hj:=(List.getElem?_eq_some_iff.mp q).1
  have hj2:j < Z.length:=by rw [←h.len];exact hj
  exact ⟨p,Z[j],(zsi e).symm,rfl,zge hj2,h.get q (zge hj2)⟩
inductive zUf (t:Adr) (a:V) (H:Hp) (Q:VK):Prop
 | mk (b:Bytes) (F:Addr→Prop) (_:zVb a H b) (_:(∀x,H x=none→F x)) (_:∀D H',Sm (Ts t) H H'→H D=none→LLLF F H' D (lns b)→Q (.ref D) H'):zUf t a H Q
theorem zSP (T:Txt K mg t):Own P w K mg base 2 "lines_of" ["text"] (Sp1 (zUf t)):=by
 refine own1 T.d_lines_of zXP fun a H Q h f cdv A outer s E hr=>?_
 obtain ⟨b,Fr,⟨p,rfl,hw,hl⟩,hFr,k0⟩:=h
 refine ⟨_,(zV (zQ (zZf (own:=[("line", 1)]) rfl zXP.nd (yV K (zS (zSQ T) hr.o (zZ (pv 0) (zZ (z5 T.g_LINE_END) zY)))) (yU rfl) (fun _ _ _ _ _=>(yZ (i:=1) zXP.nd)) (fun _ _ _ _ _=>y4) (fun _ _ _ _ _=>(zS (zSQ T) hr.o (zZ (pv 1) (zZ (z5 T.g_BLANK) zY))))))),?_⟩
 refine ⟨_,rfl,_,_,rfl,b,10,⟨p,rfl,hw,hl⟩,rfl,fun F H1 S1 nF hF=>?_⟩
 obtain ⟨qs,h1,h2,h3⟩:=hF
 obtain ⟨sm1,sm2⟩:=zZF 10 b
 have ql:qs.length≤5001:=by rw [h2.len];lia
 refine ⟨F,rfl,⟨_,SqL.of h1⟩,fun D nD=>zUc (Ts:=Ts t) (y6.seq (SqL.of h1)) nD (by rw [zlm];lia)
  (fun j y H'=>∃q x rs,y=.ref q∧q≠D∧(parted 10 b)[j]?=some x∧RefL H' q rs∧All2 (fun r z=>IL H' r (zb z)) rs (parted 32 x)∧∀r∈rs,r≠D∧Fr r) (fun j y Ha Hb Sab ⟨q,x,rs,e1,e2,e3,e4,e5,e6⟩=>⟨q,x,rs,e1,e2,e3,e4.sm Sab,e5.imp fun _ _ h=>h.sm Sab,e6⟩) (fun j y Ha o ⟨q,x,rs,e1,e2,e3,e4,e5,e6⟩=>⟨q,x,rs,e1,e2,e3,by unfold RefL;rw [zP e2];exact e4,All2.of e5.len fun i r z er ez=>by
   show upd _ D _ r=_
   rw [zP (e6 r (List.mem_of_getElem? er)).1]
   exact e5.get er ez,e6⟩) ?_ ?_⟩
 ·intro j y H3 Q' hj S3 ⟨acc,hacc⟩ it k
  obtain ⟨q,x,rfl,e1,e2,r⟩:=zXs (H:=H1) h2 it
  have hx:=sm2 x (List.mem_of_getElem? e2)
  refine ⟨rfl,_,rfl,_,_,rfl,x,32,⟨q,rfl,r.sm S3,by lia⟩,rfl,fun G H4 S4 nG hG=>?_⟩
  obtain ⟨rs,g1,g2,g3⟩:=hG
  exact k _ _ S4 ⟨G,x,rs,rfl,(zT hacc nG).symm,e2,g1,g2,fun r hr=>⟨(zT hacc (g3 r hr)).symm,hFr r ((S1.trans S3).free (g3 r hr))⟩⟩
 ·intro ys H3 S3 hys hR hD
  obtain ⟨rs,rfl⟩:=zXG ys fun j y ej=>by
   obtain ⟨q,x,_,e1,_⟩:=hR j y ej
   exact ⟨q,e1⟩
  refine k0 D H3 (S1.trans S3) (S1.free nD) ⟨rs,hD,?_⟩
  rw [zlm,zlm] at hys
  refine All2.of ?_ fun i r z er ez=>?_
  ·unfold lns
   rw [zlm,hys,h2.len]
   rfl
  ·obtain ⟨q,x,us,e1,_,e3,e4,e5,e6⟩:=hR i (.ref r) (by rw [zgm,er];rfl)
   cases e1
   unfold lns at ez
   have e3:(parted GarText.LF b)[i]?=some x:=e3
   rw [zgm,e3] at ez
   rw [←zsi ez]
   exact ⟨us,e4,All2.of e5.len fun k u v eu ev=>⟨e5.get eu ev,(e6 u (List.mem_of_getElem? eu)).2⟩⟩
inductive qV (t:Adr) (a:V) (c:V) (H:Hp) (Q:VK):Prop
 | mk (p:Addr) (ws:List Bytes) (n:Nat) (_:a=.ref p) (_:LL H p ws) (_:c=.int n) (_:RI t H Q (zWG ws n:Nat)):qV t a c H Q
theorem zYK (T:Txt K mg t):Own P w K mg base 1 "fault_behind_last" ["words", "number"] (Sp2 (qV t)):=by
 refine own2 T.d_fault_behind_last zXn fun a c H Q h f cdv A outer s E hr=>?_
 obtain ⟨p,ws,n,rfl,hw,rfl,k0⟩:=h
 refine ⟨_,(zW (yO (zTP (z8 zRp (pv 1) (z5 T.g_FIRST_CAR_LINE) (z9 _)) (zTj (z8 (zRX hr.units) (pv 0) (yX (zZ (yX zY) zY)) (z9 _)))).pt (zV (zQ (z5 T.g_NO_SUCH_LINE))) z7)
   (zV (zQ (z5 T.g_NO_FAULT)))),?_⟩
 unfold zWG at k0
 refine ⟨_,rfl,_,_,rfl,rfl,_,rfl,itP (fun q=>?_) fun q=>?_⟩
 ·rw [if_pos (.inl (by lia))] at k0
  exact k0 H (Sm.refl _)
 ·refine ⟨_,rfl,sz rfl,fun e he=>⟨sz rfl,fun D hD=>?_⟩⟩
  have S0:Sm (Ts t) H (upd (upd H e (.lst [])) D (.lst [V.ref e])):=(Sm.new he).add hD
  have hD2:LL (upd (upd H e (.lst [])) D (.lst [V.ref e])) D [[]]:=⟨[e],zX,.cons (by
   show upd (upd H e (.lst [])) D (.lst [V.ref e]) e=some (.lst [])
   rw [zP (zT zX hD),zX]) .nil⟩
  refine neL (hw.sm S0) hD2 ⟨_,rfl,itB (fun q2=>?_) fun q2=>?_⟩
  ·rw [if_pos (.inr (by
    intro z
    rw [z] at q2
    simp at q2))] at k0
   exact k0 _ S0
  ·rw [if_neg (by
    rintro (z|z)
    ·lia
    ·rw [decide_eq_false z] at q2
     cases q2)] at k0
   exact k0 _ S0
inductive zZ4 (t:Adr) (a:V) (H:Hp) (Q:VK):Prop
 | mk (p:Addr) (ws:List Bytes) (_:a=.ref p) (_:LL H p ws) (_:Small ws) (_:RI t H Q (zYO ws:Nat)):zZ4 t a H Q
theorem zWd (T:Txt K mg t):Own P w K mg base 4 "fault_of_first" ["words"] (Sp1 (zZ4 t)):=by
 refine own1 T.d_fault_of_first zWW fun a H Q h f cdv A outer s E hr=>?_
 obtain ⟨p,ws,rfl,hw,hs,k0⟩:=h
 refine ⟨_,(zW (yO (zTP (z8 zRb (y8 K T.b_len (zZ (pv 0) zY)) z3 (z9 _)) (zTP (z8 (zRX hr.units) (yP (z4 K) (pv 0) z3 (fun _ _=>rfl)) (zS (k6 T) hr.o (zZ zZN zY)) (z9 _)) (zTj (zZD (k5 (zS (zXU T) hr.o (zZ (yP (z4 K) (pv 0) z3 (fun _ _=>rfl)) zY))))))).pt (zV (zQ (z5 T.g_NO_SUCH_LINE))) z7)
   (zW (yO (zZD (k5 (zS (qU T) hr.o (zZ (yP (z4 K) (pv 0) z3 (fun _ _=>rfl)) (zZ z3 (zZ (z5 T.g_MOST_SLOTS) zY)))))) (zV (zQ (z5 T.g_NO_SUCH_LINE))) z7)
   (zV (zQ (z5 T.g_NO_FAULT))))),?_⟩
 unfold zYO at k0
 refine ⟨_,rfl,LL.len hw ⟨rfl,_,rfl,itB (fun q=>iteT ?_) fun q=>?_⟩⟩
 ·rw [if_pos (.inl (by
   intro z
   rw [z] at q
   simp at q))] at k0
  exact k0 H (Sm.refl _)
 ·have l3:ws.length=3:=by
   have:=iEq (by simpa using q)
   lia
  refine ⟨_,rfl,zT2 (i:=0) hw (by lia) fun r hr0=>⟨_,rfl,_,rfl,by decide +kernel,fun D H1 S1 nD hD=>?_⟩⟩
  rw [z0M] at hD
  refine neB (hr0.sm S1) hD ⟨_,rfl,itB (fun q2=>iteT ?_) fun q2=>?_⟩
  ·rw [if_pos (.inr (.inl (by
    intro z
    rw [z] at q2
    simp at q2)))] at k0
   exact k0 _ S1
  ·have w0:w1 ws 0=ascii "day" := by simpa using q2
   refine ⟨_,rfl,zT2 (i:=1) (hw.sm S1) (by lia) fun r1 hr1=>⟨_,rfl,_,⟨r1,rfl,hr1,hs.w 1⟩,fun H2 S2=>⟨_,rfl,itB (fun q3=>?_) fun q3=>?_⟩⟩⟩
   ·rw [if_pos (.inr (.inr (by simpa using q3)))] at k0
    exact k0 _ (S1.trans S2)
   ·rw [if_neg (by
     rintro (z|z|z)
     ·lia
     ·exact z w0
     ·rw [z] at q3
      cases q3)] at k0
    refine ⟨_,rfl,zT2 (i:=2) ((hw.sm S1).sm S2) (by lia) fun r2 hr2=>⟨_,_,_,rfl,_,1,GarPlug.SLOTS,⟨r2,rfl,hr2,hs.w 2⟩,rfl,rfl,fun H3 S3=>⟨_,rfl,itB (fun q4=>?_) fun q4=>?_⟩⟩⟩
    ·rw [if_pos (by simpa using q4)] at k0
     exact k0 _ ((S1.trans S2).trans S3)
    ·have q4:numW 1 GarPlug.SLOTS (w1 ws 2)=true:=by simpa using q4
     rw [if_neg (by rw [q4];decide)] at k0
     exact k0 _ ((S1.trans S2).trans S3)
inductive zYR (t:Adr) (a:V) (b:V) (c:V) (d:V) (H:Hp) (Q:VK):Prop
 | mk (p:Addr) (ws:List Bytes) (x:Str) (v:String) (m n:Nat) (_:a=.ref p) (_:LL H p ws) (_:Small ws) (_:0 < ws.length) (_:b=.str x) (_:x.cps.size≤1000) (_:(x.cps.toList.map fun (c:Nat)=>(c:Int))=zb (ascii v)) (_:c=.int m) (_:d=.int n) (_:RI t H Q (fRow v m n ws:Nat)):zYR t a b c d H Q
theorem zYE (T:Txt K mg t):Own P w K mg base 4 "fault_of_row" ["words", "head", "most", "slots"] (Sp4 (zYR t)):=by
 refine own4 T.d_fault_of_row zZx fun a b c d H Q h f cdv A outer s E hr=>?_
 obtain ⟨p,ws,x,v,m,n,rfl,hw,hs,h0,rfl,hx,ex,rfl,rfl,k0⟩:=h
 refine ⟨_,(zW (yO (z8 (zRX hr.units) (yP (z4 K) (pv 0) z3 (fun _ _=>rfl)) (zS (k6 T) hr.o (zZ (pv 1) zY)) (z9 _)) (zV (zQ (z5 T.g_NO_SUCH_LINE))) z7)
   (zW (yO (zZD (k5 (yS (allK K rfl) (by rfl) T.b_all (by decide +kernel) (zZ (zZf (own:=[("word", 4)]) rfl zZx.nd (yV K (y9 (xZ K) (pv 0) (xX z3) v8)) (yU rfl) (fun _ _ _ _ _=>(yZ (i:=4) zZx.nd)) (fun _ _ _ _ _=>y4) (fun _ _ _ _ _=>(zS (qU T) hr.o (zZ (pv 4) (zZ z3 (zZ (pv 2) zY)))))) zY)))) (zV (zQ (z5 T.g_NO_SUCH_LINE))) z7)
   (zW (yO (z8 zRb (yQ zZL (y8 K T.b_len (zZ (pv 0) zY)) z3) (pv 3) (z9 _)) (zV (zQ (z5 T.g_OTHER_COUNT))) z7)
   (zV (zQ (z5 T.g_NO_FAULT)))))),?_⟩
 unfold fRow at k0
 refine ⟨_,rfl,qQ (i:=0) hw h0 fun r hr0=>⟨_,rfl,_,rfl,_,rfl,hx,fun D H1 S1 nD hD=>?_⟩⟩
 rw [ex] at hD
 refine neB (hr0.sm S1) hD ⟨_,rfl,itB (fun q2=>?_) fun q2=>?_⟩
 ·rw [if_pos (by
   intro z
   rw [z] at q2
   simp at q2)] at k0
  exact k0 _ S1
 ·have w0:w1 ws 0=ascii v:=by simpa using q2
  rw [if_neg (by rw [w0];exact fun z=>z rfl)] at k0
  obtain ⟨qs,h1,h2⟩:=hw.sm (t:=t) S1
  refine ⟨_,rfl,_,rfl,p,_,rfl,SqL.of h1,fun M hM=>?_⟩
  have c1:cutV (qs.map V.ref) (some 1) none=(qs.drop 1).map V.ref:=by
   rw [List.map_drop]
   exact uZ _ 1
  rw [c1]
  have SM:Sm (Ts t) H1 (upd H1 M (.lst ((qs.drop 1).map V.ref))):=Sm.new hM
  have hM1:RefL (upd H1 M (.lst ((qs.drop 1).map V.ref))) M (qs.drop 1):=zX
  have h3:All2 (fun q x=>IL (upd H1 M (.lst ((qs.drop 1).map V.ref))) q (zb x)) (qs.drop 1) (ws.drop 1):=(h2.drop 1).imp fun _ _ h=>h.sm SM
  have ln:((qs.drop 1).map V.ref).length=(ws.drop 1).length:=by rw [zlm,h3.len]
  have hln:=hs.1
  refine ⟨M,rfl,⟨_,SqL.of hM1⟩,fun D2 nD2=>zXJ (Ts:=Ts t) (y6.seq (SqL.of hM1)) nD2 (by rw [ln,List.length_drop];lia) (fun j=>numW 0 m ((ws.drop 1).getD j [])) (fun j v H' Q' hj S' it k'=>?_) fun H' S' hD2=>?_⟩
  ·obtain ⟨q,z,rfl,e1,e2,r⟩:=zXs (H:=H1) h3 it
   have ez:(ws.drop 1).getD j []=z:=by rw [List.getD_eq_getElem?_getD,e2];rfl
   rw [ez] at k'
   exact ⟨rfl,_,rfl,_,rfl,_,_,_,rfl,z,0,m,⟨q,rfl,r.sm S',hs.2 z (List.mem_of_mem_drop (List.mem_of_getElem? e2))⟩,rfl,rfl,k'⟩
  ·rw [ln] at hD2
   refine allB hD2 ⟨_,rfl,?_⟩
   rw [zUS (ws.drop 1) [] (numW 0 m)]
   have SS:=(S1.trans SM).trans S'
   refine itB (fun q3=>?_) fun q3=>?_
   ·rw [if_pos (by simpa using q3)] at k0
    exact k0 _ SS
   ·have q3:(ws.drop 1).all (numW 0 m)=true:=by simpa using q3
    rw [if_neg (by rw [q3];decide)] at k0
    refine ⟨_,rfl,LL.len (hw.sm SS) ⟨_,_,rfl,rfl,_,rfl,rfl,_,rfl,itB (fun q4=>?_) fun q4=>?_⟩⟩
    ·have q4:(ws.length:Int)-1≠(n:Int):=nEq q4
     rw [if_pos (by lia)] at k0
     exact k0 _ SS
    ·have q4:(ws.length:Int)-1=(n:Int):=nNe q4
     rw [if_neg (by lia)] at k0
     exact k0 _ SS
inductive zXD (t:Adr) (a:V) (H:Hp) (Q:VK):Prop
 | mk (p:Addr) (ws:List Bytes) (_:a=.ref p) (_:LL H p ws) (_:Small ws) (_:RB t H Q (zZZ ws)):zXD t a H Q
theorem zUE (T:Txt K mg t):Own P w K mg base 3 "is_car_line" ["words"] (Sp1 (zXD t)):=by
 refine own1 T.d_is_car_line zZV fun a H Q h f cdv A outer s E hr=>?_
 obtain ⟨p,ws,rfl,hw,hs,k0⟩:=h
 refine ⟨_,(zW (yO (zTP (z8 zRb (y8 K T.b_len (zZ (pv 0) zY)) z3 (z9 _)) (zTP (z8 (zRX hr.units) (yP (z4 K) (pv 0) z3 (fun _ _=>rfl)) (zS (k6 T) hr.o (zZ zZN zY)) (z9 _)) (zTj (zZD (k5 (zS (zXU T) hr.o (zZ (yP (z4 K) (pv 0) z3 (fun _ _=>rfl)) zY))))))).pt (zV (zQ zQU)) z7)
   (zW (yO (zZD (k5 (yS (allK K rfl) (by rfl) T.b_all (by decide +kernel) (zZ (zZf (own:=[("word", 1)]) rfl zZV.nd (yV K (y9 (xZ K) (pv 0) (xX z3) v8)) (yU rfl) (fun _ _ _ _ _=>(yZ (i:=1) zZV.nd)) (fun _ _ _ _ _=>y4) (fun _ _ _ _ _=>(zS (zWe T) hr.o (zZ (pv 1) zY)))) zY)))) (zV (zQ zQU)) z7)
   (zV (zQ (zS (kU T) hr.o (zZ (zS (xV T) hr.o (zZ (yP (z4 K) (pv 0) z3 (fun _ _=>rfl)) zY)) (zZ (zS (xV T) hr.o (zZ (yP (z4 K) (pv 0) z3 (fun _ _=>rfl)) zY)) zY))))))),?_⟩
 unfold zZZ at k0
 refine ⟨_,rfl,LL.len hw ⟨rfl,_,rfl,itB (fun q=>iteT ?_) fun q=>?_⟩⟩
 ·have q:(ws.length:Int)≠6:=nEq q
  rw [beq_eq_false_iff_ne.mpr (by lia:ws.length≠6),Bool.false_and,Bool.false_and] at k0
  exact k0 H (Sm.refl _)
 ·have l6:ws.length=6:=by
   have q:(ws.length:Int)=6:=nNe q
   lia
  rw [beq_iff_eq.mpr l6,Bool.true_and] at k0
  refine ⟨_,rfl,qQ (i:=0) hw (by lia) fun r hr0=>⟨_,rfl,_,rfl,by decide +kernel,fun D H1 S1 nD hD=>?_⟩⟩
  rw [z1Q] at hD
  refine neB (hr0.sm S1) hD ⟨_,rfl,itB (fun q2=>iteT ?_) fun q2=>?_⟩
  ·have q2:w1 ws 0≠ascii "car" := by simpa using q2
   rw [beq_eq_false_iff_ne.mpr q2,Bool.false_and,Bool.false_and] at k0
   exact k0 _ S1
  ·have w0:w1 ws 0=ascii "car" := by simpa using q2
   rw [beq_iff_eq.mpr w0,Bool.true_and] at k0
   refine ⟨_,rfl,qQ (i:=1) (hw.sm S1) (by lia) fun r1 hr1=>⟨_,rfl,_,⟨r1,rfl,hr1,hs.w 1⟩,fun H2 S2=>⟨_,rfl,itB (fun q3=>?_) fun q3=>?_⟩⟩⟩
   ·have q3:isName (w1 ws 1)=false:=by simpa using q3
    rw [q3,Bool.false_and] at k0
    exact k0 _ (S1.trans S2)
   ·have q3:isName (w1 ws 1)=true:=by simpa using q3
    rw [q3,Bool.true_and] at k0
    have S12:=S1.trans S2
    obtain ⟨qs,h1,h2⟩:=hw.sm (t:=t) S12
    refine ⟨_,rfl,_,rfl,p,_,rfl,SqL.of h1,fun M hM=>?_⟩
    have c1:cutV (qs.map V.ref) (some 2) none=(qs.drop 2).map V.ref:=by
     rw [List.map_drop]
     exact uZ _ 2
    rw [c1]
    have SM:Sm (Ts t) H2 (upd H2 M (.lst ((qs.drop 2).map V.ref))):=Sm.new hM
    have hM1:RefL (upd H2 M (.lst ((qs.drop 2).map V.ref))) M (qs.drop 2):=zX
    have h3:All2 (fun q x=>IL (upd H2 M (.lst ((qs.drop 2).map V.ref))) q (zb x)) (qs.drop 2) (ws.drop 2):=(h2.drop 2).imp fun _ _ h=>h.sm SM
    have ln:((qs.drop 2).map V.ref).length=(ws.drop 2).length:=by rw [zlm,h3.len]
    refine ⟨M,rfl,⟨_,SqL.of hM1⟩,fun D2 nD2=>zXJ (Ts:=Ts t) (y6.seq (SqL.of hM1)) nD2 (by rw [ln,List.length_drop];lia) (fun j=>isNum ((ws.drop 2).getD j [])) (fun j v H' Q' hj S' it k'=>?_) fun H' S' hD2=>?_⟩
    ·obtain ⟨q,z,rfl,e1,e2,r⟩:=zXs (H:=H1) h3 it
     have ez:(ws.drop 2).getD j []=z:=by rw [List.getD_eq_getElem?_getD,e2];rfl
     rw [ez] at k'
     exact ⟨rfl,_,rfl,_,rfl,z,⟨q,rfl,r.sm S',hs.2 z (List.mem_of_mem_drop (List.mem_of_getElem? e2))⟩,k'⟩
    ·rw [ln] at hD2
     refine allB hD2 ⟨_,rfl,?_⟩
     rw [zUS (ws.drop 2) [] isNum]
     have SS:=(S12.trans SM).trans S'
     refine itB (fun q4=>?_) fun q4=>?_
     ·have q4:(ws.drop 2).all isNum=false:=by simpa using q4
      rw [q4,Bool.false_and] at k0
      exact k0 _ SS
     ·have q4:(ws.drop 2).all isNum=true:=by simpa using q4
      rw [q4,Bool.true_and] at k0
      have dig:∀i,2≤i→i < 6→(w1 ws i).all isDigit=true:=fun i h1 h2=>by
       unfold w1
       rw [Chg.vX (by lia:i < ws.length)]
       refine (zZ1 (List.all_eq_true.mp q4 _ ?_)).1
       have:ws[i]=(ws.drop 2)[i-2]'(by rw [List.length_drop];lia):=by
        rw [List.getElem_drop]
        congr 1
        lia
       rw [this]
       exact List.getElem_mem _
      have hw4:=hw.sm (t:=t) SS
      refine ⟨_,rfl,qQ (i:=4) hw4 (by lia) fun r4 hr4=>⟨_,rfl,_,⟨r4,rfl,hr4,hs.w 4⟩,dig 4 (by decide) (by decide),fun H5 S5=>?_⟩⟩
      refine ⟨_,rfl,qQ (i:=5) (hw4.sm S5) (by lia) fun r5 hr5=>⟨_,rfl,_,⟨r5,rfl,hr5,hs.w 5⟩,dig 5 (by decide) (by decide),fun H6 S6=>?_⟩⟩
      refine ⟨_,_,rfl,_,_,rfl,rfl,fun H7 S7=>?_⟩
      have e:(decide (((valueOf (w1 ws 4):Nat):Int)≤99) && (decide (1≤((valueOf (w1 ws 5):Nat):Int)) && decide (((valueOf (w1 ws 5):Nat):Int)≤20)))=Chg.fits (valueOf (w1 ws 4)) (valueOf (w1 ws 5)):=by
       unfold Chg.fits
       rw [Bool.eq_iff_iff]
       simp only [zbt,zde]
       show _↔valueOf (w1 ws 4)≤99∧1≤valueOf (w1 ws 5)∧valueOf (w1 ws 5)≤20
       lia
      rw [e]
      exact k0 _ (((SS.trans S5).trans S6).trans S7)
theorem zRg {ws:List Bytes} (h:zZZ ws=true):ws.length=6∧∀i,2≤i→i < 6→(w1 ws i).all isDigit=true:=by
 unfold zZZ at h
 simp only [zbt,beq_iff_eq] at h
 refine ⟨h.1.1,fun i h1 h2=>?_⟩
 unfold w1
 rw [Chg.vX (by lia:i < ws.length)]
 refine (zZ1 (List.all_eq_true.mp h.2.1 _ ?_)).1
 have:ws[i]=(ws.drop 2)[i-2]'(by rw [List.length_drop];lia):=by
  rw [List.getElem_drop]
  congr 1
  lia
 rw [this]
 exact List.getElem_mem _
inductive zYM (t:Adr) (a:V) (b:V) (c:V) (H:Hp) (Q:VK):Prop
 | mk (p r:Addr) (ws names:List Bytes) (n:Nat) (_:a=.ref p) (_:b=.ref r) (_:c=.int n) (_:LL H p ws) (_:Small ws) (_:LL H r names) (_:RI t H Q (fCar ws names n:Nat)):zYM t a b c H Q
theorem zVy (T:Txt K mg t):Own P w K mg base 4 "fault_of_car" ["words", "names_before", "slots"] (Sp3 (zYM t)):=by
 refine own3 T.d_fault_of_car zUA fun a b c H Q h f cdv A outer s E hr=>?_
 obtain ⟨p,r,ws,names,n,rfl,rfl,rfl,hw,hs,hn,k0⟩:=h
 refine ⟨_,(zW (yO (zZD (k5 (zS (zUE T) hr.o (zZ (pv 0) zY)))) (zV (zQ (z5 T.g_NO_SUCH_LINE))) z7)
   (zW (yO (zZD (k5 (zS (zWm T) hr.o (zZ (zS (xV T) hr.o (zZ (yP (z4 K) (pv 0) z3 (fun _ _=>rfl)) zY)) (zZ (zS (xV T) hr.o (zZ (yP (z4 K) (pv 0) z3 (fun _ _=>rfl)) zY)) (zZ (pv 2) zY)))))) (zV (zQ (z5 T.g_NO_STAY))) z7)
   (zW (yO (z8 (z4z hr.units65) (yP (z4 K) (pv 0) z3 (fun _ _=>rfl)) (pv 1) rfl) (zV (zQ (z5 T.g_NAME_AGAIN))) z7)
   (zW (yO (z8 zRz (y8 K T.b_len (zZ (pv 1) zY)) (z5 T.g_MOST_CARS) (z9 _)) (zV (zQ (z5 T.g_CAR_TOO_MANY))) z7)
   (zV (zQ (z5 T.g_NO_FAULT))))))),?_⟩
 unfold fCar at k0
 refine ⟨_,rfl,_,rfl,p,ws,rfl,hw,hs,fun H1 S1=>⟨_,rfl,itB (fun q=>?_) fun q=>?_⟩⟩
 ·rw [if_pos (by simpa using q)] at k0
  exact k0 _ S1
 ·have q:zZZ ws=true:=by simpa using q
  obtain ⟨l6,dig⟩:=zRg q
  rw [if_neg (by rw [q];decide)] at k0
  refine ⟨_,rfl,qQ (i:=2) (hw.sm S1) (by lia) fun r2 hr2=>⟨_,rfl,_,⟨r2,rfl,hr2,hs.w 2⟩,dig 2 (by decide) (by decide),fun H2 S2=>?_⟩⟩
  refine ⟨_,rfl,qQ (i:=3) ((hw.sm S1).sm S2) (by lia) fun r3 hr3=>⟨_,rfl,_,⟨r3,rfl,hr3,hs.w 3⟩,dig 3 (by decide) (by decide),fun H3 S3=>?_⟩⟩
  refine ⟨_,rfl,_,_,_,rfl,_,_,_,rfl,rfl,rfl,fun H4 S4=>⟨_,rfl,?_⟩⟩
  have S04:=((S1.trans S2).trans S3).trans S4
  have e:(decide (((valueOf (w1 ws 2):Nat):Int) < ((valueOf (w1 ws 3):Nat):Int)) && decide (((valueOf (w1 ws 3):Nat):Int)≤(n:Int)))=Chg.stays (valueOf (w1 ws 2)) (valueOf (w1 ws 3)) n:=by
   unfold Chg.stays
   rw [Bool.eq_iff_iff]
   simp only [zbt,zde]
   lia
  rw [e]
  refine itB (fun q2=>?_) fun q2=>?_
  ·rw [if_pos (by simpa using q2)] at k0
   exact k0 _ S04
  ·have q2:Chg.stays (valueOf (w1 ws 2)) (valueOf (w1 ws 3)) n=true:=by simpa using q2
   rw [if_neg (by rw [q2];decide)] at k0
   refine ⟨_,rfl,qQ (i:=1) (hw.sm S04) (by lia) fun r1 hr1=>⟨_,rfl,_,_,dpI hr1,dpL (hn.sm S04),PySem.W.ke_shaped_ints _,zUU _,_,rfl,?_⟩⟩
   have e2:((names.map bD).any fun z=>PyData.eqv z (bD (w1 ws 1)))=decide (w1 ws 1∈names):=by
    rw [List.any_map,Bool.eq_iff_iff,List.any_eq_true,zde]
    constructor
    ·rintro ⟨x,hx,hq⟩
     have hq:PyData.eqv (bD x) (bD (w1 ws 1))=true:=hq
     rw [z0r,zde] at hq
     rw [←hq]
     exact hx
    ·intro hx
     refine ⟨_,hx,?_⟩
     show PyData.eqv (bD (w1 ws 1)) (bD (w1 ws 1))=true
     rw [z0r,zde]
   rw [e2]
   refine itP (fun q3=>?_) fun q3=>?_
   ·rw [if_pos q3] at k0
    exact k0 _ S04
   ·rw [if_neg q3] at k0
    refine ⟨_,rfl,LL.len (hn.sm S04) ⟨_,_,rfl,rfl,_,rfl,itP (fun q4=>?_) fun q4=>?_⟩⟩
    ·have q4:(6:Int)≤(names.length:Int):=q4
     rw [if_pos (show GarPlug.CARS≤names.length by show 6≤names.length;lia)] at k0
     exact k0 _ S04
    ·have q4:¬(6:Int)≤(names.length:Int):=q4
     rw [if_neg (show ¬GarPlug.CARS≤names.length by show ¬6≤names.length;lia)] at k0
     exact k0 _ S04
end
open PySem PySem.Spec PyProof.Rows L2
open GarText (Bytes isSmall isDigit isName valueOf numberIn decimal parted lineText joined ascii)
open GarPlug (Car Day)
open Chg (w1 zYO fRow fCar zWG zZZ numW isNum kindAt lns slotsOf namesOf uY nums zVC FF NF)
section
variable {K:Fg}{H:Hp}{a:Addr}{L:List (List Bytes)}{Q:VK}{σ:L2.St}
theorem z1z {i:Nat} (h:LLL H a L) (hi:i < L.length) (k:∀r,LL H r (L.getD i [])→Q (.ref r) H):rIxL K (.ref a) (.int i) H Q:=by
 obtain ⟨qs,h1,h2⟩:=h
 have hq:i < qs.length:=by rw [h2.len];exact hi
 refine jQ h1 (zge hq) (k _ ?_)
 rw [Chg.vX hi]
 exact h2.get (zge hq) (zge hi)
theorem z2H {i:Nat} (h:LLL H a L) (hi:i < L.length) (k:∀r,LL H r (L.getD i [])→Q (.ref r) H):tC (.int i) σ H fun y H2=>rIxL K (.ref a) y H2 Q:=z1z h hi k
theorem LLL.len (h:LLL H a L) (q:Q (.int L.length) H):tNil σ H fun xs H2=>rLen K (.ref a::xs) H2 Q:=by
 obtain ⟨qs,h1,h2⟩:=h
 exact lenR h1 (by rw [h2.len];exact q)
end
def zTe (L:List (List Bytes)):Prop:=L.length≤5000∧∀ws∈L,Small ws∧ws≠[]
theorem zTe.at_ {L:List (List Bytes)} (h:zTe L) {i:Nat} (hi:i < L.length):Small (L.getD i [])∧0 < (L.getD i []).length:=by
 rw [Chg.vX hi]
 have:=h.2 _ (List.getElem_mem hi)
 refine ⟨this.1,?_⟩
 cases e:L[i] with
 | nil=>exact absurd e this.2
 | cons _ _=>simp
theorem z1u {b:Bytes} (h:b.length≤2048):zTe (lns b):=by
 obtain ⟨h1,h2⟩:=zZF GarText.LF b
 unfold lns
 refine ⟨by rw [zlm];lia,fun ws hws=>?_⟩
 obtain ⟨x,hx,rfl⟩:=List.mem_map.mp hws
 have:=h2 x hx
 obtain ⟨g1,g2⟩:=zZF GarText.BLANK x
 exact ⟨⟨by unfold GarText.words;lia,fun y hy=>by have:=g2 y hy;lia⟩,Chg.z2I x⟩
theorem z1J {L:List (List Bytes)} (h:1 < L.length) (k:kindAt L 0=0):(L.getD 0 []).length=3∧(w1 (L.getD 0 []) 2).all isDigit=true:=by
 unfold kindAt at k
 rw [if_neg (by lia),if_pos rfl] at k
 unfold zYO at k
 split at k
 ·cases k
 ·rename_i q
  split at k
  ·cases k
  ·rename_i q2
   refine ⟨Classical.byContradiction fun z=>q (.inl z),?_⟩
   have q2:numW 1 GarPlug.SLOTS (w1 (L.getD 0 []) 2)=true:=by simpa using q2
   unfold numW at q2
   rw [zbt] at q2
   exact (zZ1 q2.1).1
theorem z22 {L:List (List Bytes)}{j:Nat} (h:3≤j) (hj:j+1 < L.length) (k:kindAt L j=0):zZZ (L.getD j [])=true:=by
 unfold kindAt at k
 rw [if_neg (by lia),if_neg (by lia),if_neg (by lia),if_neg (by lia)] at k
 unfold fCar at k
 split at k
 ·cases k
 ·rename_i q
  simpa using q
theorem z20 {L:List (List Bytes)}{j:Nat} (h:j=1∨j=2) (hj:j+1 < L.length) (k:kindAt L j=0):∀b∈(L.getD j []).drop 1,b.all isDigit=true:=by
 have go:∀v m n ws,fRow v m n ws=0→∀b∈ws.drop 1,b.all isDigit=true:=by
  intro v m n ws k b hb
  unfold fRow at k
  split at k
  ·cases k
  ·split at k
   ·cases k
   ·rename_i q
    have q:(ws.drop 1).all (numW 0 m)=true:=by simpa using q
    have:=List.all_eq_true.mp q b hb
    unfold numW at this
    rw [zbt] at this
    exact (zZ1 this.1).1
 unfold kindAt at k
 rcases h with rfl|rfl
 ·rw [if_neg (by lia),if_neg (by lia),if_pos rfl] at k
  exact go _ _ _ _ k
 ·rw [if_neg (by lia),if_neg (by lia),if_neg (by lia),if_pos rfl] at k
  exact go _ _ _ _ k
section
variable {P:Program}{w:World}{K:Fg}{mg:Str→Option Value}{base:Heap}{t:Adr}
inductive zYB (t:Adr) (a:V) (b:V) (H:Hp) (Q:VK):Prop
 | mk (p:Addr) (L:List (List Bytes)) (i:Nat) (_:a=.ref p) (_:b=.int i) (_:LLL H p L) (_:zTe L) (_:i < L.length) (_:(∀j,j < i→kindAt L j=0)) (_:RI t H Q (kindAt L i:Nat)):zYB t a b H Q
theorem zWM (T:Txt K mg t):Own P w K mg base 5 "kind_of_fault" ["lines", "number"] (Sp2 (zYB t)):=by
 refine own2 T.d_kind_of_fault wQ fun a b H Q h f cdv A outer s E hr=>?_
 obtain ⟨p,L,i,rfl,rfl,hL,hs,hi,hb,k0⟩:=h
 refine ⟨_,(zW (yY (i:=2) wQ.nd (yP (z4 K) (pv 0) (pv 1) (fun _ _=>rfl)))
   (zW (yO (z8 u5 (pv 1) (yQ zZL (y8 K T.b_len (zZ (pv 0) zY)) z3) (z9 _)) (zV (zQ (zS (zYK T) hr.o (zZ (pv 2) (zZ (pv 1) zY))))) z7)
   (zW (yO (z8 u5 (pv 1) z3 (z9 _)) (zV (zQ (zS (zWd T) hr.o (zZ (pv 2) zY)))) z7)
   (zW (yY (i:=3) wQ.nd (zS (xV T) hr.o (zZ (yP (z4 K) (yP (z4 K) (pv 0) z3 (fun _ _=>rfl)) z3 (fun _ _=>rfl)) zY)))
   (zW (yO (z8 u5 (pv 1) z3 (z9 _)) (zV (zQ (zS (zYE T) hr.o (zZ (pv 2) (zZ zZN (zZ (z5 T.g_MOST_SUPPLY) (zZ (pv 3) zY))))))) z7)
   (zW (yO (z8 u5 (pv 1) z3 (z9 _)) (zV (zQ (zS (zYE T) hr.o (zZ (pv 2) (zZ zZN (zZ (z5 T.g_MOST_PRICE) (zZ (pv 3) zY))))))) z7)
   (zW (zZH (i:=4) (own:=[("before", 5)]) rfl wQ.nd rfl rfl (zYW rfl rfl rfl rfl) (yV K (y9 (xZ K) (pv 0) (xX (z5 T.g_FIRST_CAR_LINE)) (xX (pv 1)))) (yU rfl) (fun _ _ _ _ _=>(yZ (i:=5) wQ.nd)) (fun _ _ _ _ _=>y4) (fun _ _ _ _ _=>(yP (z4 K) (pv 5) z3 (fun _ _=>rfl))))
   (zV (zQ (zS (zVy T) hr.o (zZ (pv 2) (zZ (pv 4) (zZ (pv 3) zY))))))))))))),?_⟩
 unfold kindAt at k0
 obtain ⟨sw,hw0⟩:=hs.at_ hi
 refine ⟨_,rfl,_,rfl,z1z hL hi fun r hr0=>?_⟩
 refine ⟨_,rfl,_,rfl,LLL.len hL ⟨_,_,rfl,rfl,rfl,_,rfl,itB (fun q=>?_) fun q=>?_⟩⟩
 ·have q:(i:Int)=(L.length:Int)-1:=iEq q
  rw [if_pos (by lia)] at k0
  exact ⟨_,rfl,_,rfl,_,_,rfl,r,_,i,rfl,hr0,rfl,k0⟩
 ·have q:(i:Int)≠(L.length:Int)-1:=iNe q
  rw [if_neg (by lia)] at k0
  refine ⟨_,rfl,rfl,_,rfl,itB (fun q1=>?_) fun q1=>?_⟩
  ·have q1:(i:Int)=0:=iEq q1
   rw [if_pos (by lia)] at k0
   exact ⟨_,rfl,_,rfl,r,_,rfl,hr0,sw,k0⟩
  ·have q1:(i:Int)≠0:=iNe q1
   rw [if_neg (by lia)] at k0
   obtain ⟨l3,dg⟩:=z1J (L:=L) (by lia) (hb 0 (by lia))
   have sw0:=(hs.at_ (by lia:0 < L.length)).1
   refine ⟨_,rfl,z2H (i:=0) hL (by lia) fun r0 hr00=>qQ (i:=2) hr00 (by lia) fun r2 hr2=>⟨_,rfl,_,⟨r2,rfl,hr2,sw0.w 2⟩,dg,fun H1 S1=>?_⟩⟩
   refine ⟨_,rfl,rfl,_,rfl,itB (fun q2=>?_) fun q2=>?_⟩
   ·have q2:(i:Int)=1:=iEq q2
    rw [if_pos (by lia)] at k0
    exact ⟨_,rfl,_,rfl,_,_,_,_,rfl,r,_,_,"supply", GarPlug.SUPPLY,slotsOf L,rfl,hr0.sm S1,sw,hw0,rfl,by decide +kernel,zTk,rfl,rfl,fun H2 S2=>k0 H2 (S1.trans S2)⟩
   ·have q2:(i:Int)≠1:=iNe q2
    rw [if_neg (by lia)] at k0
    refine ⟨_,rfl,rfl,_,rfl,itB (fun q3=>?_) fun q3=>?_⟩
    ·have q3:(i:Int)=2:=iEq q3
     rw [if_pos (by lia)] at k0
     exact ⟨_,rfl,_,rfl,_,_,_,_,rfl,r,_,_,"price", GarPlug.PRICE,slotsOf L,rfl,hr0.sm S1,sw,hw0,rfl,by decide +kernel,zSI,rfl,rfl,fun H2 S2=>k0 H2 (S1.trans S2)⟩
    ·have q3:(i:Int)≠2:=iNe q3
     rw [if_neg (by lia)] at k0
     obtain ⟨qs,h1,h2⟩:=hL.sm (t:=t) S1
     refine ⟨_,rfl,_,rfl,_,rfl,_,rfl,p,_,rfl,SqL.of h1,fun M hM=>?_⟩
     have c1:cutV (qs.map V.ref) (some 3) (some (i:Int))=((qs.take i).drop 3).map V.ref:=by
      rw [List.map_drop,List.map_take]
      exact zTT _ (i:=3) (by rw [zlm,h2.len];lia)
     rw [c1]
     have SM:Sm (Ts t) H1 (upd H1 M (.lst (((qs.take i).drop 3).map V.ref))):=Sm.new hM
     have hM1:RefL (upd H1 M (.lst (((qs.take i).drop 3).map V.ref))) M ((qs.take i).drop 3):=zX
     have h3:All2 (LL (upd H1 M (.lst (((qs.take i).drop 3).map V.ref)))) ((qs.take i).drop 3) ((L.take i).drop 3):=((h2.take i).drop 3).imp fun _ _ h=>h.sm SM
     have ln:(((qs.take i).drop 3).map V.ref).length=((L.take i).drop 3).length:=by rw [zlm,h3.len]
     have lL:=hs.1
     refine ⟨M,rfl,⟨_,SqL.of hM1⟩,fun D nD=>zUc (Ts:=Ts t) (y6.seq (SqL.of hM1)) nD (by rw [ln,List.length_drop,List.length_take];lia)
      (fun j y H'=>∃q ws,y=.ref q∧q≠D∧((L.take i).drop 3)[j]?=some ws∧IL H' q (zb (w1 ws 1))) (fun j y Ha Hb Sab ⟨q,ws,e1,e2,e3,e4⟩=>⟨q,ws,e1,e2,e3,e4.sm Sab⟩) (fun j y Ha o ⟨q,ws,e1,e2,e3,e4⟩=>⟨q,ws,e1,e2,e3,by unfold IL;rw [zP e2];exact e4⟩) ?_ ?_⟩
     ·intro j y H3 Q' hj S3 hacc it k
      obtain ⟨q,ws,rfl,e1,e2,r⟩:=zXs (H:=H1) h3 it
      have hj2:=(List.getElem?_eq_some_iff.mp e2).1
      rw [List.length_drop,List.length_take] at hj2
      have ej:L.getD (3+j) []=ws:=by
       rw [List.getElem?_drop,List.getElem?_take_of_lt (by lia)] at e2
       rw [List.getD_eq_getElem?_getD,e2]
       rfl
      have l6:=(zRg (z22 (L:=L) (j:=3+j) (by lia) (by lia) (hb _ (by lia)))).1
      rw [ej] at l6
      refine ⟨rfl,_,rfl,?_⟩
      obtain ⟨us,g1,g2⟩:=r
      have hu:1 < us.length:=by rw [g2.len];lia
      have iu:IL (upd H1 M (.lst (((qs.take i).drop 3).map V.ref))) us[1] (zb (w1 ws 1)):=by
       unfold w1
       rw [Chg.vX (by lia:1 < ws.length)]
       exact g2.get (zge hu) (zge _)
      exact jQ (k:=1) (g1.sm (t:=t) S3) (zge hu) (k _ _ (Sm.refl _) ⟨us[1],ws,rfl,zT iu nD,e2,iu.sm (t:=t) S3⟩)
     ·intro ys H3 S3 hys hR hD
      obtain ⟨rs,rfl⟩:=zXG ys fun j y ej=>by
       obtain ⟨q,x,e1,_⟩:=hR j y ej
       exact ⟨q,e1⟩
      rw [zlm,ln] at hys
      have hn:LL H3 D (Chg.namesOf ((L.take i).drop 3)):=⟨rs,hD,by
       unfold Chg.namesOf
       refine All2.of (by rw [zlm,hys]) fun j r z er ez=>?_
       obtain ⟨q,ws,e1,_,e3,e4⟩:=hR j (.ref r) (by rw [zgm,er];rfl)
       cases e1
       rw [zgm,e3] at ez
       rw [←zsi ez]
       exact e4⟩
      have SS:=(S1.trans SM).trans S3
      exact ⟨_,rfl,_,rfl,_,rfl,_,_,_,rfl,r,D,_,_,slotsOf L,rfl,rfl,rfl,hr0.sm SS,sw,hn,fun H4 S4=>k0 H4 (SS.trans S4)⟩
def FRes (L:List (List Bytes)) (ns:List Nat):Prop:=(∃i q,FF L i q∧ns=[i,q])∨(NF L∧ns=[])
inductive zXC (t:Adr) (a:V) (H:Hp) (Q:VK):Prop
 | mk (p:Addr) (L:List (List Bytes)) (_:a=.ref p) (_:LLL H p L) (_:zTe L) (_:∀ns,FRes L ns→RZ t H Q (zn ns)):zXC t a H Q
theorem zUG (T:Txt K mg t):Own P w K mg base 6 "first_fault" ["lines"] (Sp1 (zXC t)):=by
 refine own1 T.d_first_fault zZW fun a H Q h f cdv A outer s E hr=>?_
 obtain ⟨p,L,rfl,hL,hs,k0⟩:=h
 refine ⟨_,(zW (kQ PassesOwn.never rfl (wO (by rfl) T.b_range (zZ (y8 K T.b_len (zZ (pv 0) zY)) zY)) (yZ (i:=1) zZW.nd)
   (zW (yY (i:=2) zZW.nd (zS (zWM T) hr.o (zZ (pv 0) (zZ (pv 1) zY))))
   (zV (yO (z8 zRb (pv 2) (z5 T.g_NO_FAULT) (z9 _)) (zV (zQ (yX (zZ (pv 1) (zZ (pv 2) zY))))) z7))))
   (zV (zQ (yX zY)))),?_⟩
 have lL:=hs.1
 refine ⟨_,rfl,LLL.len hL ⟨_,rfl,by lia,by lia,k7 (Ts:=Ts t) (y6.rng _) (fun i σ H'=>Sm (Ts t) H H'∧(∀j,j < i→kindAt L j=0)∧∃o1 o2,σ=[some (.ref p),o1,o2]) (fun _ _ _ h=>h.1) ⟨Sm.refl _,(fun j hj=>absurd hj (Nat.not_lt_zero j)),none,none,rfl⟩ ?_ ?_⟩⟩
 ·rintro i x σ H1 H2 hi ⟨S1,hc,o1,o2,rfl⟩ S2 rfl
  rw [Int.toNat_natCast] at hi
  have S12:=S1.trans S2
  refine ⟨_,rfl,_,rfl,_,_,rfl,p,L,i,rfl,rfl,hL.sm S12,hs,hi,hc,fun H3 S3=>?_⟩
  refine ⟨_,rfl,rfl,_,rfl,itB (fun q=>?_) fun q=>?_⟩
  ·have q:((kindAt L i:Nat):Int)≠0:=nEq q
   refine ⟨_,rfl,_,rfl,sz rfl,fun D hD=>?_⟩
   exact k0 [i,kindAt L i] (.inl ⟨i,_,⟨hi,hc,rfl,by lia⟩,rfl⟩) D _ ((S12.trans S3).add hD) ((S12.trans S3).free hD) zX
  ·have q:((kindAt L i:Nat):Int)=0:=nNe q
   refine ⟨S12.trans S3,fun j hj=>?_,_,_,rfl⟩
   rcases Nat.lt_or_ge j i with z|z
   ·exact hc j z
   ·have:j=i:=by lia
    rw [this]
    lia
 ·rintro σ H1 ⟨S1,hc,o1,o2,rfl⟩
  rw [Int.toNat_natCast] at hc
  exact ⟨sz rfl,fun D hD=>k0 [] (.inr ⟨hc,rfl⟩) D _ (S1.add hD) (S1.free hD) zX⟩
end
open PySem PySem.Spec PyProof.Rows L2
open GarText (Bytes isSmall isDigit isName valueOf numberIn decimal parted lineText joined ascii)
open GarPlug (Car Day)
open Chg (w1 zYO fRow fCar zWG zZZ numW isNum kindAt lns slotsOf uY nums zVC FF NF)
section
variable {K:Fg}{H:Hp}{a:Addr}{Q:VK}{σ:L2.St}
theorem jW {ns:List Int}{k:Nat}{z:Int} (h:IL H a ns) (e:ns[k]?=some z) (q:Q (.int z) H):tC (.int k) σ H fun y H2=>rIxL K (.ref a) y H2 Q:=zSO h e q
theorem zVW {as:List Addr}{k:Nat}{b:Addr} (h:RefL H a as) (e:as[k]?=some b) (q:Q (.ref b) H):tC (.int k) σ H fun y H2=>rIxL K (.ref a) y H2 Q:=jQ h e q
end
def zWp (F:Addr→Prop) (sp pr:Addr) (t:Adr) (H:Hp) (a:Addr) (c:Car):Prop:=∃dx nm,H a=some (.ins t.CC dx (carF nm c))∧IL H nm (zb c.name)∧F a∧F nm∧nm≠sp∧nm≠pr
def v9 (F:Addr→Prop) (t:Adr) (H:Hp) (a:Addr) (d:Day):Prop:=∃dx nm sp pr cs as,H a=some (.ins t.CD dx (dayF nm sp pr cs))∧IL H nm (zb d.name)∧IL H sp (zn d.supply)∧IL H pr (zn d.price)∧RefL H cs as∧All2 (zWp F sp pr t H) as d.cars∧
 (F a∧F nm∧F sp∧F pr∧F cs)∧nm≠sp∧nm≠pr∧sp≠pr∧cs≠sp∧cs≠pr
theorem zWp.at_ {F:Addr→Prop}{sp pr:Addr}{t:Adr}{H:Hp}{a:Addr}{c:Car} (h:zWp F sp pr t H a c):zZe t H a c:=by
 obtain ⟨dx,nm,h1,h2,_⟩:=h
 exact ⟨dx,nm,h1,h2⟩
theorem v9.r {F:Addr→Prop}{t:Adr}{H:Hp}{a:Addr}{d:Day} (h:v9 F t H a d):DayR t H a d:=by
 obtain ⟨dx,nm,sp,pr,cs,as,h1,h2,h3,h4,h5,h6,_⟩:=h
 exact ⟨dx,nm,sp,pr,cs,h1,h2,h3,h4,as,h5,h6.imp fun _ _ r=>r.at_⟩
theorem zWp.sm {F:Addr→Prop}{sp pr:Addr}{t:Adr}{H H':Hp}{a:Addr}{c:Car} (h:zWp F sp pr t H a c) (S:Sm (Ts t) H H'):zWp F sp pr t H' a c:=by
 obtain ⟨dx,nm,h1,h2,h3⟩:=h
 exact ⟨dx,nm,S.keep _ _ h1 z0,h2.sm S,h3⟩
theorem v9.sm {F:Addr→Prop}{t:Adr}{H H':Hp}{a:Addr}{d:Day} (h:v9 F t H a d) (S:Sm (Ts t) H H'):v9 F t H' a d:=by
 obtain ⟨dx,nm,sp,pr,cs,as,h1,h2,h3,h4,h5,h6,h7⟩:=h
 exact ⟨dx,nm,sp,pr,cs,as,S.keep _ _ h1 z0,h2.sm S,h3.sm S,h4.sm S,h5.sm S,h6.imp fun _ _ r=>r.sm S,h7⟩
structure CarB (c:Car):Prop where
 name:c.name.length≤12
 from_:c.from_≤12
 to_:c.to_≤12
 need:c.need≤99
 rate:c.rate≤20
structure DayB (d:Day):Prop where
 name:d.name.length≤12
 lo:1≤d.supply.length
 hi:d.supply.length≤12
 pr:d.price.length=d.supply.length
 cars:d.cars.length≤6
 sup:∀n∈d.supply,n≤100
 pri:∀n∈d.price,n≤999
 car:∀c∈d.cars,CarB c
theorem zRw {n:Nat} (h:n < 10 ^ 10):(decimal n).length≤10:=by
 unfold decimal
 rw [zlm]
 have:=PySem.W.KXf.digits_le (a:=(n:Int)) (Int.natCast_nonneg _) (by exact_mod_cast h)
 rw [Int.natAbs_natCast] at this
 exact this
theorem zXV:∀{l:List Nat},(∀n∈l,n < 10 ^ 10)→tot (l.map decimal)≤11 * l.length
 | [],_=>Nat.le_refl _
 | n::l,h=>by
  have h1:=zRw (h n (List.mem_cons_self ..))
  have h2:=zXV (l:=l) fun m hm=>h m (zmc _ hm)
  show (decimal n).length+1+tot (l.map decimal)≤11 * (l.length+1)
  lia
theorem zZK (ws:List Bytes):(lineText ws).length≤tot ws+1:=by
 unfold lineText
 rw [zla]
 have:=zY9 ws
 simp only [List.length_singleton]
 lia
section
variable {P:Program}{w:World}{K:Fg}{mg:Str→Option Value}{base:Heap}{t:Adr}
theorem z0Z {H1:Hp}{M:Addr}{rs:List Addr}{ws:List Bytes}{g:TG}{te:TE}{vs:List Nat}{σ:L2.St}{D:Addr}{Qd:Hp→Prop} (hM:RefL H1 M rs) (h:All2 (fun q x=>IL H1 q (zb x)) rs ws) (nD:H1 D=none) (hn:ws.length≤5000)
  (hg:∀(q:Addr) (x:Bytes) (H':Hp) (Q':VK),x∈ws→IL H' q (zb x)→RI t H' Q' (valueOf x:Nat)→g (.ref q) (wipe σ vs) H' fun σ2 H2=>wipe σ2 vs=wipe σ vs∧te σ2 H2 Q') (fin:∀H',Sm (Ts t) H1 H'→IL H' D (zn (ws.map valueOf))→Qd H'):
  ∃W:Nat→Nat→Hp→Prop,(∃m,W 0 m (upd H1 D (.lst [])))∧∀i m H,W i m H→
   ((Itl K M).stop i H∧Qd H)∨((Itl K M).go i H∧∃Nx:Hp→Prop,(∀H',Nx H'→∃m',m' < m∧W (i+1) m' H')∧∀x H',(Itl K M).yld i H x H'→g x (wipe σ vs) H' fun σ2 H2=>wipe σ2 vs=wipe σ vs∧tYes σ2 H2 fun b H3=>
    if b=true then te σ2 H3 fun y H4=>∃acc,H4 D=some (.lst acc)∧acc.length < sizeLine∧Nx (upd H4 D (.lst (acc++[y]))) else Nx H3):=by
 have ln:(rs.map V.ref).length=ws.length:=by rw [zlm,h.len]
 refine zYz (Ts:=Ts t) (y6.seq (SqL.of hM)) nD (by rw [ln];lia) (fun j=>((valueOf (ws.getD j []):Nat):Int)) (fun j v H' Q' hj S' it k'=>?_) fun H' S' hD=>fin H' S' ?_
 ·obtain ⟨q,z,rfl,e1,e2,r⟩:=zXs (H:=H1) h it
  have ez:ws.getD j []=z:=by rw [List.getD_eq_getElem?_getD,e2];rfl
  rw [ez] at k'
  exact hg q z H' Q' (List.mem_of_getElem? e2) (r.sm S') k'
 ·show H' D=_
  rw [hD,ln,zWF ws [] fun b=>((valueOf b:Nat):Int)]
  unfold zn
  rw [List.map_map,List.map_map,List.map_map]
  rfl
theorem z1a {H1:Hp}{M:Addr}{l:List Nat}{g:TG}{te:TE}{vs:List Nat}{σ:L2.St}{D:Addr}{Qd:Hp→Prop} (hM:IL H1 M (zn l)) (nD:H1 D=none) (hn:l.length≤5000)
  (hg:∀(n:Nat) (H':Hp) (Q':VK),n∈l→RZ t H' Q' (zb (decimal n))→g (.int n) (wipe σ vs) H' fun σ2 H2=>wipe σ2 vs=wipe σ vs∧te σ2 H2 Q') (fin:∀H' qs,Sm (Ts t) H1 H'→RefL H' D qs→All2 (fun q x=>IL H' q (zb x)) qs (l.map decimal)→Qd H'):
  ∃W:Nat→Nat→Hp→Prop,(∃m,W 0 m (upd H1 D (.lst [])))∧∀i m H,W i m H→
   ((Itl K M).stop i H∧Qd H)∨((Itl K M).go i H∧∃Nx:Hp→Prop,(∀H',Nx H'→∃m',m' < m∧W (i+1) m' H')∧∀x H',(Itl K M).yld i H x H'→g x (wipe σ vs) H' fun σ2 H2=>wipe σ2 vs=wipe σ vs∧tYes σ2 H2 fun b H3=>
    if b=true then te σ2 H3 fun y H4=>∃acc,H4 D=some (.lst acc)∧acc.length < sizeLine∧Nx (upd H4 D (.lst (acc++[y]))) else Nx H3):=by
 have ln:((zn l).map V.int).length=l.length:=by rw [zlm,z6]
 refine zUc (Ts:=Ts t) (y6.seq (SqL.of hM)) nD (by rw [ln];lia) (fun j y H'=>∃q n,y=.ref q∧q≠D∧l[j]?=some n∧IL H' q (zb (decimal n))) (fun j y Ha Hb Sab ⟨q,n,e1,e2,e3,e4⟩=>⟨q,n,e1,e2,e3,e4.sm Sab⟩) (fun j y Ha o ⟨q,n,e1,e2,e3,e4⟩=>⟨q,n,e1,e2,e3,by unfold IL;rw [zP e2];exact e4⟩) ?_ ?_
 ·intro j y H3 Q' hj S3 ⟨acc,hacc⟩ it k
  rw [zgm] at it
  unfold zn at it
  rw [zgm] at it
  cases e:l[j]? with
  | none=>
   rw [e] at it
   cases it
  | some n=>
   rw [e] at it
   obtain rfl:=(zsi it).symm
   exact hg n H3 Q' (List.mem_of_getElem? e) fun a H4 S4 na ha=>k _ _ S4 ⟨a,n,rfl,(zT hacc na).symm,e,ha⟩
 ·intro ys H3 S3 hys hR hD
  obtain ⟨rs,rfl⟩:=zXG ys fun j y ej=>by
   obtain ⟨q,x,e1,_⟩:=hR j y ej
   exact ⟨q,e1⟩
  rw [zlm,ln] at hys
  refine fin H3 rs S3 hD (All2.of (by rw [zlm,hys]) fun j r z er ez=>?_)
  obtain ⟨q,n,e1,_,e3,e4⟩:=hR j (.ref r) (by rw [zgm,er];rfl)
  cases e1
  rw [zgm,e3] at ez
  rw [←zsi ez]
  exact e4
inductive zSz (t:Adr) (a:V) (H:Hp) (Q:VK):Prop
 | mk (p:Addr) (ws:List Bytes) (F:Addr→Prop) (_:a=.ref p) (_:LLF F H p ws) (_:Small ws) (_:zZZ ws=true) (_:∀x H' dx nm,Sm (Ts t) H H'→H x=none→H' x=some (.ins t.CC dx (carF nm (uY ws)))→IL H nm (zb (w1 ws 1))→F nm→Q (.ref x) H'):zSz t a H Q
theorem zQ5 (T:Txt K mg t):Own P w K mg base 3 "car_of" ["words"] (Sp1 (zSz t)):=by
 refine own1 T.d_car_of zUK fun a H Q h f cdv A outer s E hr=>?_
 obtain ⟨p,ws,F,rfl,⟨qs,h1,h2⟩,hs,hc,k0⟩:=h
 refine ⟨_,(zW (zZH (i:=1) (own:=[("word", 2)]) rfl zUK.nd rfl rfl (zYW rfl rfl rfl rfl) (yV K (y9 (xZ K) (pv 0) (xX z3) v8)) (yU rfl) (fun _ _ _ _ _=>(yZ (i:=2) zUK.nd)) (fun _ _ _ _ _=>y4) (fun _ _ _ _ _=>(zS (xV T) hr.o (zZ (pv 2) zY))))
   (zV (zQ (z0U (zRI T) hr.o (zZ (yP (z4 K) (pv 0) z3 (fun _ _=>rfl)) (zZ (yP (z4 K) (pv 1) z3 (fun _ _=>rfl)) (zZ (yP (z4 K) (pv 1) z3 (fun _ _=>rfl)) (zZ (yP (z4 K) (pv 1) z3 (fun _ _=>rfl)) (zZ (yP (z4 K) (pv 1) z3 (fun _ _=>rfl)) zY))))))))),?_⟩
 obtain ⟨l6,dig⟩:=zRg hc
 refine ⟨_,rfl,_,rfl,p,_,rfl,SqL.of h1,fun M hM=>?_⟩
 have c1:cutV (qs.map V.ref) (some 2) none=(qs.drop 2).map V.ref:=by
  rw [List.map_drop]
  exact uZ _ 2
 rw [c1]
 have SM:Sm (Ts t) H (upd H M (.lst ((qs.drop 2).map V.ref))):=Sm.new hM
 have hM1:RefL (upd H M (.lst ((qs.drop 2).map V.ref))) M (qs.drop 2):=zX
 have h3:All2 (fun q x=>IL (upd H M (.lst ((qs.drop 2).map V.ref))) q (zb x)) (qs.drop 2) (ws.drop 2):=(h2.drop 2).imp fun _ _ h=>h.1.sm (t:=t) SM
 refine ⟨M,rfl,⟨_,SqL.of hM1⟩,fun D nD=>z0Z (t:=t) hM1 h3 nD (by rw [List.length_drop];lia) (fun q x H' Q' hx hq k'=>?_) fun H1 S1 hD=>?_⟩
 ·refine ⟨rfl,_,rfl,_,rfl,x,⟨q,rfl,hq,hs.2 x (List.mem_of_mem_drop hx)⟩,?_,k'⟩
  have:=hc
  unfold zZZ at this
  simp only [zbt] at this
  exact (zZ1 (List.all_eq_true.mp this.2.1 _ hx)).1
 ·have S01:=SM.trans S1
  have q1:1 < qs.length:=by rw [h2.len];lia
  have i1:=h2.get (zge q1) (zge (by lia:1 < ws.length))
  have ew:ws[1]=w1 ws 1:=(Chg.vX (by lia)).symm
  rw [ew] at i1
  have nb:∀i,i < 4→(zn ((ws.drop 2).map valueOf))[i]?=some ((valueOf (w1 ws (2+i)):Nat):Int):=fun i hi=>by
   refine zVg ?_
   rw [zgm,List.getElem?_drop,zge (by lia:2+i < ws.length)]
   unfold w1
   rw [Chg.vX (by lia:2+i < ws.length)]
   rfl
  refine ⟨_,rfl,zVW (k:=1) (h1.sm S01) (zge q1) ?_⟩
  refine ⟨_,rfl,jW (k:=0) hD (nb 0 (by decide)) ⟨_,rfl,jW (k:=1) hD (nb 1 (by decide)) ⟨_,rfl,jW (k:=2) hD (nb 2 (by decide)) ⟨_,rfl,jW (k:=3) hD (nb 3 (by decide)) ?_⟩⟩⟩⟩
  intro x dx hx hdx hne
  refine ⟨x,dx,qs[1],uY ws,rfl,zX,rfl,?_⟩
  rw [uT]
  exact k0 x _ dx qs[1] (S01.trans (zWT hx hdx hne)) (S01.free hx) zX i1.1 i1.2
theorem z2V {L:List (List Bytes)} (h:NF L) (h0:0 < L.length):4≤L.length:=by
 have:=h (L.length-1) (by lia)
 unfold kindAt at this
 rw [if_pos rfl] at this
 unfold zWG at this
 by_cases q:L.length-1 < 3
 ·rw [if_pos (.inl q)] at this
  cases this
 ·lia
inductive zSd (t:Adr) (a:V) (H:Hp) (Q:VK):Prop
 | mk (p:Addr) (L:List (List Bytes)) (F:Addr→Prop) (_:a=.ref p) (_:LLLF F H p L) (_:zTe L) (_:0 < L.length) (_:NF L) (_:(∀x,H x=none→F x)) (_:∀x H',Sm (Ts t) H H'→H x=none→v9 F t H' x (zVC L)→Q (.ref x) H'):zSd t a H Q
theorem zQH (T:Txt K mg t):Own P w K mg base 4 "day_of" ["lines"] (Sp1 (zSd t)):=by
 refine own1 T.d_day_of zZs fun a H Q h f cdv A outer s E hr=>?_
 obtain ⟨p,L,F,rfl,⟨qs,h1,h2⟩,hs,h0,nf,hF,k0⟩:=h
 refine ⟨_,(zW (zZH (i:=1) (own:=[("word", 4)]) rfl zZs.nd rfl rfl (zYW rfl rfl rfl rfl) (yV K (y9 (xZ K) (yP (z4 K) (pv 0) z3 (fun _ _=>rfl)) (xX z3) v8)) (yU rfl) (fun _ _ _ _ _=>(yZ (i:=4) zZs.nd)) (fun _ _ _ _ _=>y4) (fun _ _ _ _ _=>(zS (xV T) hr.o (zZ (pv 4) zY))))
   (zW (zZH (i:=2) (own:=[("word", 4)]) rfl zZs.nd rfl rfl (zYW rfl rfl rfl rfl) (yV K (y9 (xZ K) (yP (z4 K) (pv 0) z3 (fun _ _=>rfl)) (xX z3) v8)) (yU rfl) (fun _ _ _ _ _=>(yZ (i:=4) zZs.nd)) (fun _ _ _ _ _=>y4) (fun _ _ _ _ _=>(zS (xV T) hr.o (zZ (pv 4) zY))))
   (zW (zZH (i:=3) (own:=[("words", 5)]) rfl zZs.nd rfl rfl (zYW rfl rfl rfl rfl) (yV K (y9 (xZ K) (pv 0) (xX (z5 T.g_FIRST_CAR_LINE)) (xX (z5K z4O z3)))) (yU rfl) (fun _ _ _ _ _=>(yZ (i:=5) zZs.nd)) (fun _ _ _ _ _=>y4) (fun _ _ _ _ _=>(zS (zQ5 T) hr.o (zZ (pv 5) zY))))
   (zV (zQ (z0U (z1n T) hr.o (zZ (yP (z4 K) (yP (z4 K) (pv 0) z3 (fun _ _=>rfl)) z3 (fun _ _=>rfl)) (zZ (pv 1) (zZ (pv 2) (zZ (pv 3) zY)))))))))),?_⟩
 have l4:=z2V nf h0
 have lq:qs.length=L.length:=h2.len
 have at_:∀i (hi:i < L.length),LLF F H (qs[i]'(by lia)) (L.getD i []):=fun i hi=>by
  rw [Chg.vX hi]
  exact h2.get (zge _) (zge hi)
 obtain ⟨r1,g1,g2⟩:=at_ 1 (by lia)
 refine ⟨_,rfl,zVW (k:=1) h1 (zge (by lia)) ⟨_,rfl,qs[1],_,rfl,SqL.of g1,fun M hM=>?_⟩⟩
 have c1:cutV (r1.map V.ref) (some 1) none=(r1.drop 1).map V.ref:=by
  rw [List.map_drop]
  exact uZ _ 1
 rw [c1]
 have SM:Sm (Ts t) H (upd H M (.lst ((r1.drop 1).map V.ref))):=Sm.new hM
 have hM1:RefL (upd H M (.lst ((r1.drop 1).map V.ref))) M (r1.drop 1):=zX
 have s1:=hs.at_ (by lia:1 < L.length)
 have d1:=z20 (.inl rfl) (by lia:1+1 < L.length) (nf 1 (by lia))
 refine ⟨M,rfl,⟨_,SqL.of hM1⟩,fun D nD=>z0Z (t:=t) hM1 ((g2.drop 1).imp fun _ _ h=>h.1.sm (t:=t) SM) nD (by rw [List.length_drop];have:=s1.1.1;lia) (fun q x H' Q' hx hq k'=>⟨rfl,_,rfl,_,rfl,x,⟨q,rfl,hq,s1.1.2 x (List.mem_of_mem_drop hx)⟩,d1 x hx,k'⟩) fun H1 S1 hD=>?_⟩
 have S01:=SM.trans S1
 have nD0:=SM.free nD
 obtain ⟨r2,g3,g4⟩:=(at_ 2 (by lia)).sm S01
 refine ⟨_,rfl,zVW (k:=2) (h1.sm S01) (zge (by lia)) ⟨_,rfl,qs[2],_,rfl,SqL.of g3,fun M2 hM2=>?_⟩⟩
 have c2:cutV (r2.map V.ref) (some 1) none=(r2.drop 1).map V.ref:=by
  rw [List.map_drop]
  exact uZ _ 1
 rw [c2]
 have SM2:Sm (Ts t) H1 (upd H1 M2 (.lst ((r2.drop 1).map V.ref))):=Sm.new hM2
 have hM3:RefL (upd H1 M2 (.lst ((r2.drop 1).map V.ref))) M2 (r2.drop 1):=zX
 have s2:=hs.at_ (by lia:2 < L.length)
 have d2:=z20 (.inr rfl) (by lia:2+1 < L.length) (nf 2 (by lia))
 refine ⟨M2,rfl,⟨_,SqL.of hM3⟩,fun D2 nD2=>z0Z (t:=t) hM3 ((g4.drop 1).imp fun _ _ h=>h.1.sm (t:=t) SM2) nD2 (by rw [List.length_drop];have:=s2.1.1;lia) (fun q x H' Q' hx hq k'=>⟨rfl,_,rfl,_,rfl,x,⟨q,rfl,hq,s2.1.2 x (List.mem_of_mem_drop hx)⟩,d2 x hx,k'⟩) fun H2 S2 hD2=>?_⟩
 have S12:=SM2.trans S2
 have S02:=S01.trans S12
 have nD20:=S01.free (SM2.free nD2)
 have DD2:D≠D2:=zT hD (SM2.free nD2)
 have hD:=hD.sm (t:=t) S12
 have h1b:=h1.sm (t:=t) S02
 refine ⟨_,rfl,_,rfl,_,rfl,_,rfl,p,_,rfl,SqL.of h1b,fun M3 hM3=>?_⟩
 have c3:cutV (qs.map V.ref) (some 3) (some (-1))=(qs.dropLast.drop 3).map V.ref:=by
  rw [List.map_drop,List.map_dropLast]
  exact z2m _ (i:=3) (by rw [zlm];lia)
 rw [c3]
 have SM3:Sm (Ts t) H2 (upd H2 M3 (.lst ((qs.dropLast.drop 3).map V.ref))):=Sm.new hM3
 have hM4:RefL (upd H2 M3 (.lst ((qs.dropLast.drop 3).map V.ref))) M3 (qs.dropLast.drop 3):=zX
 have S03:=S02.trans SM3
 have aL:All2 (LLF F H) (qs.dropLast.drop 3) (L.dropLast.drop 3):=by
  rw [List.dropLast_eq_take,List.dropLast_eq_take,lq]
  exact (h2.take _).drop 3
 have ln:((qs.dropLast.drop 3).map V.ref).length=(L.dropLast.drop 3).length:=by rw [zlm,aL.len]
 have lL:=hs.1
 have inL:∀j ws,(L.dropLast.drop 3)[j]?=some ws→Small ws∧zZZ ws=true:=fun j ws e=>by
  have hj:=(List.getElem?_eq_some_iff.mp e).1
  rw [List.length_drop,List.length_dropLast] at hj
  have ej:L.getD (3+j) []=ws:=by
   rw [List.getElem?_drop,List.getElem?_dropLast,if_pos (by lia)] at e
   rw [List.getD_eq_getElem?_getD,e]
   rfl
  rw [←ej]
  exact ⟨(hs.at_ (by lia)).1,z22 (by lia) (by lia) (nf _ (by lia))⟩
 refine ⟨M3,rfl,⟨_,SqL.of hM4⟩,fun D3 nD3=>?_⟩
 have nD30:=S03.free nD3
 refine zUc (Ts:=Ts t) (y6.seq (SqL.of hM4)) nD3 (by rw [ln,List.length_drop,List.length_dropLast];lia)
  (fun j y H'=>∃x ws dx nm,y=.ref x∧x≠D3∧(L.dropLast.drop 3)[j]?=some ws∧H' x=some (.ins t.CC dx (carF nm (uY ws)))∧IL H' nm (zb (w1 ws 1))∧F nm∧F x∧∃o,H nm=some o) (fun j y Ha Hb Sab ⟨x,ws,dx,nm,e1,e2,e3,e4,e5,e6⟩=>⟨x,ws,dx,nm,e1,e2,e3,Sab.keep _ _ e4 z0,e5.sm Sab,e6⟩) (fun j y Ha o ⟨x,ws,dx,nm,e1,e2,e3,e4,e5,e6,e7,o',e8⟩=>⟨x,ws,dx,nm,e1,e2,e3,by rw [zP e2];exact e4,by unfold IL;rw [zP (zT e8 nD30)];exact e5,e6,e7,o',e8⟩) ?_ ?_
 ·intro j y H3 Q' hj S3 ⟨acc,hacc⟩ it k
  obtain ⟨q,ws,rfl,e1,e2,r⟩:=zXs (H:=H1) aL it
  obtain ⟨sw,hc⟩:=inL j ws e2
  have S033:=S03.trans S3
  obtain ⟨rs,f1,f2⟩:=r
  refine ⟨rfl,_,rfl,_,rfl,q,ws,(fun a=>F a∧∃o,H a=some o),rfl,⟨rs,f1.sm S033,f2.imp fun _ _ h=>⟨h.1.sm (t:=t) S033,h.2,_,h.1⟩⟩,sw,hc,fun x H4 dx nm S4 nx hx hn hf=>?_⟩
  exact k _ _ S4 ⟨x,ws,dx,nm,rfl,(zT hacc nx).symm,e2,hx,hn.sm (t:=t) S4,hf.1,hF x (S033.free nx),hf.2⟩
 ·intro ys H3 S3 hys hR hD3
  obtain ⟨rs,rfl⟩:=zXG ys fun j y ej=>by
   obtain ⟨q,x,_,_,e1,_⟩:=hR j y ej
   exact ⟨q,e1⟩
  rw [zlm,ln] at hys
  have S033:=S03.trans S3
  have SD:=SM3.trans S3
  obtain ⟨r0,f1,f2⟩:=(at_ 0 (by lia)).sm S033
  have l3:=(z1J (by lia) (nf 0 (by lia))).1
  have hr0:1 < r0.length:=by rw [f2.len];lia
  obtain ⟨rb,b1,b2⟩:=at_ 0 (by lia)
  have er:r0=rb:=by
   have e:=b1.sm (t:=t) S033
   have e:some (HO.lst (r0.map V.ref))=some (HO.lst (rb.map V.ref)):=f1.symm.trans e
   have e:=HO.lst.inj (zsi e)
   exact (List.map_inj_right fun _ _ h=>V.ref.inj h).mp e
  subst er
  have i1:=b2.get (zge hr0) (zge (by lia:1 < (L.getD 0 []).length))
  refine ⟨_,rfl,zVW (k:=0) (h1.sm S033) (zge (by lia)) (zVW (k:=1) f1 (zge hr0) ⟨_,rfl,_,rfl,_,rfl,?_⟩)⟩
  intro x dx hx hdx hne
  refine ⟨x,dx,r0[1],D,D2,D3,rfl,zX,rfl,?_⟩
  rw [uT]
  have SX:=zWT (t:=t) (o:=.ins t.CD dx (dayF r0[1] D D2 D3)) hx hdx hne
  have nx:=S033.free hx
  have ew:(L.getD 0 [])[1]=w1 (L.getD 0 []) 1:=(Chg.vX (by lia)).symm
  rw [ew] at i1
  have nD3b:H2 D3=none:=SM3.free nD3
  refine k0 x _ (S033.trans SX) nx ⟨dx,r0[1],D,D2,D3,rs,zX,(i1.1.sm (t:=t) S033).sm (t:=t) SX,(hD.sm (t:=t) SD).sm (t:=t) SX,(hD2.sm (t:=t) SD).sm (t:=t) SX,SX.keep _ _ hD3 yR,?_,⟨hF x nx,i1.2,hF D nD0,hF D2 nD20,hF D3 nD30⟩,zT i1.1 nD0,zT i1.1 nD20,DD2,(zT hD nD3b).symm,(zT hD2 nD3b).symm⟩
  show All2 _ rs ((L.dropLast.drop 3).map uY)
  refine All2.of (by rw [zlm,hys]) fun j r z er ez=>?_
  obtain ⟨x',ws,dx',nm,e1,_,e3,e4,e5,e6,e7,o,e8⟩:=hR j (.ref r) (by rw [zgm,er];rfl)
  cases e1
  rw [zgm,e3] at ez
  rw [←zsi ez]
  exact ⟨dx',nm,SX.keep _ _ e4 z0,e5.sm (t:=t) SX,e7,e6,zT e8 nD0,zT e8 nD20⟩
theorem LL.mk {H:Hp}{a:Addr}{qs:List Addr}{ws:List Bytes} (h:RefL H a qs) (h2:All2 (fun q x=>IL H q (zb x)) qs ws):LL H a ws:=⟨qs,h,h2⟩
inductive zTg (t:Adr) (a:V) (H:Hp) (Q:VK):Prop
 | mk (p:Addr) (d:Day) (_:a=.ref p) (_:DayR t H p d) (_:DayB d) (_:RZ t H Q (zb d.text)):zTg t a H Q
theorem zRn (T:Txt K mg t):Own P w K mg base 3 "text_of" ["day"] (Sp1 (zTg t)):=by
 refine own1 T.d_text_of w8 fun a H Q h f cdv A outer s E hr=>?_
 obtain ⟨p,d,rfl,hd,B,k0⟩:=h
 refine ⟨_,(zW (yY (i:=1) w8.nd (zS (zYk T) hr.o (zZ (yX (zZ (zS (k6 T) hr.o (zZ zZN zY)) (zZ (zR K (pv 0) rfl) (zZ (zS (zXc T) hr.o (zZ (y8 K T.b_len (zZ (zR K (pv 0) rfl) zY)) zY)) zY)))) zY)))
   (zW (jZ (zXp PySem.F.plainAttrs_list PySem.F.slot_list_extend PySem.F.type_list_extend kT (pv 1) (zZ (zS (zYk T) hr.o (zZ (yQ v5 (yX (zZ (zS (k6 T) hr.o (zZ zZN zY)) zY)) (zZf (own:=[("supply", 4)]) rfl w8.nd (yV K (zR K (pv 0) rfl)) (yU rfl) (fun _ _ _ _ _=>(yZ (i:=4) w8.nd)) (fun _ _ _ _ _=>y4) (fun _ _ _ _ _=>(zS (zXc T) hr.o (zZ (pv 4) zY))))) zY)) zY)))
   (zW (jZ (zXp PySem.F.plainAttrs_list PySem.F.slot_list_extend PySem.F.type_list_extend kT (pv 1) (zZ (zS (zYk T) hr.o (zZ (yQ v5 (yX (zZ (zS (k6 T) hr.o (zZ zZN zY)) zY)) (zZf (own:=[("price", 5)]) rfl w8.nd (yV K (zR K (pv 0) rfl)) (yU rfl) (fun _ _ _ _ _=>(yZ (i:=5) w8.nd)) (fun _ _ _ _ _=>y4) (fun _ _ _ _ _=>(zS (zXc T) hr.o (zZ (pv 5) zY))))) zY)) zY)))
   (zW (kQ PassesOwn.never rfl (yV K (zR K (pv 0) rfl)) (yZ (i:=2) w8.nd)
   (zW (yY (i:=3) w8.nd (yX (zZ (zR K (pv 2) rfl) (zZ (zR K (pv 2) rfl) (zZ (zR K (pv 2) rfl) (zZ (zR K (pv 2) rfl) zY))))))
   (zV (jZ (zXp PySem.F.plainAttrs_list PySem.F.slot_list_extend PySem.F.type_list_extend kT (pv 1) (zZ (zS (zYk T) hr.o (zZ (yQ v5 (yX (zZ (zS (k6 T) hr.o (zZ zZN zY)) (zZ (zR K (pv 2) rfl) zY))) (zZf (own:=[("number", 6)]) rfl w8.nd (yV K (pv 3)) (yU rfl) (fun _ _ _ _ _=>(yZ (i:=6) w8.nd)) (fun _ _ _ _ _=>y4) (fun _ _ _ _ _=>(zS (zXc T) hr.o (zZ (pv 6) zY))))) zY)) zY))))))
   (zV (zQ (pv 1))))))),?_⟩
 have b1:=B.lo
 have b2:=B.hi
 have b3:=B.name
 have b4:=B.pr
 have b5:=B.cars
 have n12:d.supply.length < 10 ^ 10:=Nat.lt_of_le_of_lt b2 (by decide)
 have lens:=zRw n12
 have supB:∀n∈d.supply,n < 10 ^ 10:=fun n hn=>Nat.lt_of_le_of_lt (B.sup n hn) (by decide)
 have priB:∀n∈d.price,n < 10 ^ 10:=fun n hn=>Nat.lt_of_le_of_lt (B.pri n hn) (by decide)
 refine ⟨_,rfl,_,rfl,by decide +kernel,fun D1 H1 S1 n1 h1=>?_⟩
 rw [z0M] at h1
 refine ⟨_,rfl,z2G T (hd.sm S1) fun nm hnm=>⟨_,rfl,zUj T (hd.sm S1) fun sp hsp=>lenI hsp ?_⟩⟩
 refine ⟨_,rfl,d.supply.length,by rw [z6],n12,fun D2 H2 S2 n2 h2=>⟨sz rfl,fun W1 hW1=>?_⟩⟩
 have SW1:Sm (Ts t) H2 (upd H2 W1 (.lst [V.ref D1,V.ref nm,V.ref D2])):=Sm.new hW1
 have lW1:LL (upd H2 W1 (.lst [V.ref D1,V.ref nm,V.ref D2])) W1 [ascii "day", d.name,decimal d.supply.length]:=
  LL.mk (qs:=[D1,nm,D2]) zX (.cons ((h1.sm (t:=t) S2).sm (t:=t) SW1) (.cons ((hnm.sm (t:=t) S2).sm (t:=t) SW1) (.cons (h2.sm (t:=t) SW1) .nil)))
 have t1:tot [ascii "day", d.name,decimal d.supply.length]≤28:=by
  show 3+1+(d.name.length+1+((decimal d.supply.length).length+1+0))≤28
  lia
 refine ⟨_,rfl,W1,_,rfl,lW1,by simp,(by decide:3≤1000),by lia,fun X H3 S3 nX hX=>?_⟩
 have S03:=((S1.trans S2).trans SW1).trans S3
 have nX0:H X=none:=((S1.trans S2).trans SW1).free nX
 have lX:=zZK [ascii "day", d.name,decimal d.supply.length]
 have T3:=S03
 have hX3:=hX
 have len3:(lineText [ascii "day", d.name,decimal d.supply.length]).length≤100:=by lia
 refine ⟨_,rfl,.inl ⟨rfl,_,SqL.of hX3⟩,_,rfl,_,rfl,by decide +kernel,fun D30 G30 S30 n30 h30=>⟨sz rfl,fun W30 hW30=>?_⟩⟩
 rw [zTk] at h30
 have SW30:Sm (Ts t) G30 (upd G30 W30 (.lst [V.ref D30])):=Sm.new hW30
 have rW30:RefL (upd G30 W30 (.lst [V.ref D30])) W30 [D30]:=zX
 have SS30:=S30.trans SW30
 refine ⟨_,rfl,zUj T (hd.sm (T3.trans SS30)) fun sp30 hsp30=>⟨sp30,rfl,⟨_,SqL.of hsp30⟩,fun E30 nE30=>z1a (t:=t) hsp30 nE30 (by lia) (fun n H' Q' hn k'=>⟨rfl,_,rfl,_,rfl,n,rfl,supB n hn,k'⟩) fun J30 qs30 SJ30 g30 gg30=>?_⟩⟩
 refine RefL.app (p:=W30) (rW30.sm SJ30) g30 (by have:=gg30.len;rw [zlm] at this;simp only [List.length_singleton];lia) fun V30 hV30 rV30=>?_
 have SV30:Sm (Ts t) J30 (upd J30 V30 (.lst (([D30]++qs30).map V.ref))):=Sm.new hV30
 have lV30:LL (upd J30 V30 (.lst (([D30]++qs30).map V.ref))) V30 (ascii "supply" :: d.supply.map decimal):=LL.mk rV30 (.cons (((h30.sm (t:=t) SW30).sm (t:=t) SJ30).sm (t:=t) SV30) (gg30.imp fun _ _ h=>h.sm (t:=t) SV30))
 have t30:tot (ascii "supply" :: d.supply.map decimal)≤7+11 * 12:=by
  have:=zXV supB
  show 6+1+tot (d.supply.map decimal)≤_
  lia
 have l30:=zZK (ascii "supply" :: d.supply.map decimal)
 refine ⟨_,rfl,V30,_,rfl,lV30,by simp,by rw [zlc,zlm];lia,by lia,fun R30 L30 SL30 nL30 hL30=>?_⟩
 have SA30:=((SS30.trans SJ30).trans SV30).trans SL30
 have hY30:=hX3.sm (t:=t) SA30
 refine extI hY30 hL30 (by rw [xT,xT];have:=len3;lia) ?_
 have T4:=(T3.trans SA30).acc (o:=.lst ((zb (lineText [ascii "day", d.name,decimal d.supply.length])++zb (lineText (ascii "supply" :: d.supply.map decimal))).map V.int)) nX0 hY30
 have hX4:IL (upd L30 X (.lst ((zb (lineText [ascii "day", d.name,decimal d.supply.length])++zb (lineText (ascii "supply" :: d.supply.map decimal))).map V.int))) X (zb (lineText [ascii "day", d.name,decimal d.supply.length]++lineText (ascii "supply" :: d.supply.map decimal))):=by
  rw [zUt (lineText [ascii "day", d.name,decimal d.supply.length]) (lineText (ascii "supply" :: d.supply.map decimal))]
  exact zX
 have len4:(lineText [ascii "day", d.name,decimal d.supply.length]++lineText (ascii "supply" :: d.supply.map decimal)).length≤300:=by
  rw [zla]
  have:=len3
  lia
 generalize upd L30 X (.lst ((zb (lineText [ascii "day", d.name,decimal d.supply.length])++zb (lineText (ascii "supply" :: d.supply.map decimal))).map V.int))=H4 at T4 hX4 ⊢
 refine ⟨_,rfl,.inl ⟨rfl,_,SqL.of hX4⟩,_,rfl,_,rfl,by decide +kernel,fun D40 G40 S40 n40 h40=>⟨sz rfl,fun W40 hW40=>?_⟩⟩
 rw [zSI] at h40
 have SW40:Sm (Ts t) G40 (upd G40 W40 (.lst [V.ref D40])):=Sm.new hW40
 have rW40:RefL (upd G40 W40 (.lst [V.ref D40])) W40 [D40]:=zX
 have SS40:=S40.trans SW40
 refine ⟨_,rfl,zRR T (hd.sm (T4.trans SS40)) fun sp40 hsp40=>⟨sp40,rfl,⟨_,SqL.of hsp40⟩,fun E40 nE40=>z1a (t:=t) hsp40 nE40 (by lia) (fun n H' Q' hn k'=>⟨rfl,_,rfl,_,rfl,n,rfl,priB n hn,k'⟩) fun J40 qs40 SJ40 g40 gg40=>?_⟩⟩
 refine RefL.app (p:=W40) (rW40.sm SJ40) g40 (by have:=gg40.len;rw [zlm] at this;simp only [List.length_singleton];lia) fun V40 hV40 rV40=>?_
 have SV40:Sm (Ts t) J40 (upd J40 V40 (.lst (([D40]++qs40).map V.ref))):=Sm.new hV40
 have lV40:LL (upd J40 V40 (.lst (([D40]++qs40).map V.ref))) V40 (ascii "price" :: d.price.map decimal):=LL.mk rV40 (.cons (((h40.sm (t:=t) SW40).sm (t:=t) SJ40).sm (t:=t) SV40) (gg40.imp fun _ _ h=>h.sm (t:=t) SV40))
 have t40:tot (ascii "price" :: d.price.map decimal)≤7+11 * 12:=by
  have:=zXV priB
  show 5+1+tot (d.price.map decimal)≤_
  lia
 have l40:=zZK (ascii "price" :: d.price.map decimal)
 refine ⟨_,rfl,V40,_,rfl,lV40,by simp,by rw [zlc,zlm];lia,by lia,fun R40 L40 SL40 nL40 hL40=>?_⟩
 have SA40:=((SS40.trans SJ40).trans SV40).trans SL40
 have hY40:=hX4.sm (t:=t) SA40
 refine extI hY40 hL40 (by rw [xT,xT];have:=len4;lia) ?_
 have T5:=(T4.trans SA40).acc (o:=.lst ((zb (lineText [ascii "day", d.name,decimal d.supply.length]++lineText (ascii "supply" :: d.supply.map decimal))++zb (lineText (ascii "price" :: d.price.map decimal))).map V.int)) nX0 hY40
 have hX5:IL (upd L40 X (.lst ((zb (lineText [ascii "day", d.name,decimal d.supply.length]++lineText (ascii "supply" :: d.supply.map decimal))++zb (lineText (ascii "price" :: d.price.map decimal))).map V.int))) X (zb (lineText [ascii "day", d.name,decimal d.supply.length]++lineText (ascii "supply" :: d.supply.map decimal)++lineText (ascii "price" :: d.price.map decimal))):=by
  rw [zUt (lineText [ascii "day", d.name,decimal d.supply.length]++lineText (ascii "supply" :: d.supply.map decimal)) (lineText (ascii "price" :: d.price.map decimal))]
  exact zX
 have len5:(lineText [ascii "day", d.name,decimal d.supply.length]++lineText (ascii "supply" :: d.supply.map decimal)++lineText (ascii "price" :: d.price.map decimal)).length≤500:=by
  rw [zla]
  have:=len4
  lia
 generalize upd L40 X (.lst ((zb (lineText [ascii "day", d.name,decimal d.supply.length]++lineText (ascii "supply" :: d.supply.map decimal))++zb (lineText (ascii "price" :: d.price.map decimal))).map V.int))=H5 at T5 hX5 ⊢
 generalize e2:lineText [ascii "day", d.name,decimal d.supply.length]++lineText (ascii "supply" :: d.supply.map decimal)++lineText (ascii "price" :: d.price.map decimal)=A2 at hX5 len5
 obtain ⟨dx,nmx,spx,prx,cs,f1,f2,f3,f4,as,f5,f6⟩:=hd
 have hd:DayR t H p d:=⟨dx,nmx,spx,prx,cs,f1,f2,f3,f4,as,f5,f6⟩
 refine ⟨_,rfl,p,_,_,_,_,rfl,T5.keep _ _ f1 z0,T.k_Day.cl,T.k_Day.no _ (by decide +kernel),zV3,cs,rfl,⟨_,SqL.of (f5.sm T5)⟩,k7 (Ts:=Ts t) (H1:=H) (y6.seq (SqL.of f5)) (fun i σ H'=>Sm (Ts t) H H'∧∃o1 o2,σ=[some (.ref p),some (.ref X),o1,o2,none,none,none]∧IL H' X (zb (A2++(d.cars.take i).flatMap Car.text))∧(A2++(d.cars.take i).flatMap Car.text).length≤500+100 * i) (fun _ _ _ h=>h.1) ⟨T5,none,none,rfl,?_,?_⟩ ?_ ?_⟩
 ·rw [List.take_zero,List.flatMap_nil,List.append_nil]
  exact hX5
 ·rw [List.take_zero,List.flatMap_nil,List.append_nil]
  lia
 ·rintro i x σ H1 H2 hi ⟨S1,o1,o2,rfl,hA,lA⟩ S2 it
  rw [zlm] at hi
  obtain ⟨y,c,rfl,ey,ec,rc⟩:=zXs (H:=H) f6 it
  have S12:=S1.trans S2
  have rc2:=rc.sm (t:=t) S12
  have cB:=B.car c (List.mem_of_getElem? ec)
  have c1:=cB.name
  have c2:=cB.from_
  have c3:=cB.to_
  have c4:=cB.need
  have c5:=cB.rate
  have cl:i < d.cars.length:=(List.getElem?_eq_some_iff.mp ec).1
  refine ⟨_,rfl,zYH T rc2 ⟨_,rfl,zZ6 T rc2 ⟨_,rfl,zWs T rc2 ⟨_,rfl,zVP T rc2 ⟨sz rfl,fun N hN=>?_⟩⟩⟩⟩⟩
  have SN:Sm (Ts t) H2 (upd H2 N (.lst [V.int c.from_,V.int c.to_,V.int c.need,V.int c.rate])):=Sm.new hN
  have iN:IL (upd H2 N (.lst [V.int c.from_,V.int c.to_,V.int c.need,V.int c.rate])) N (zn [c.from_,c.to_,c.need,c.rate]):=zX
  have hA2:=(hA.sm (t:=t) S2).sm (t:=t) SN
  have rc3:=rc2.sm (t:=t) SN
  refine ⟨_,rfl,.inl ⟨rfl,_,SqL.of hA2⟩,_,rfl,_,rfl,by decide +kernel,fun D G SG nG hG=>⟨_,rfl,zTz T (rc3.sm (t:=t) SG) fun nm hnm=>⟨sz rfl,fun W hW=>?_⟩⟩⟩
  rw [z1Q] at hG
  have SW:Sm (Ts t) G (upd G W (.lst [V.ref D,V.ref nm])):=Sm.new hW
  have rW:RefL (upd G W (.lst [V.ref D,V.ref nm])) W [D,nm]:=zX
  have SS:=SG.trans SW
  have iN2:=iN.sm (t:=t) SS
  have numB:∀n∈[c.from_,c.to_,c.need,c.rate],n < 10 ^ 10:=by
   intro n hn
   simp only [List.mem_cons,List.not_mem_nil,or_false] at hn
   have:n≤99:=by lia
   exact Nat.lt_of_le_of_lt this (by decide)
  refine ⟨_,rfl,N,rfl,⟨_,SqL.of iN2⟩,fun E1 nE1=>z1a (t:=t) iN2 nE1 (Nat.le_of_ble_eq_true rfl) (fun n H' Q' hn k'=>⟨rfl,_,rfl,_,rfl,n,rfl,numB n hn,k'⟩) fun J qs SJ g gg=>?_⟩
  refine RefL.app (p:=W) (rW.sm SJ) g (by have:=gg.len;rw [zlm] at this;simp only [zlc,List.length_nil] at this ⊢;lia) fun U hU rU=>?_
  have SU:Sm (Ts t) J (upd J U (.lst (([D,nm]++qs).map V.ref))):=Sm.new hU
  have lU:LL (upd J U (.lst (([D,nm]++qs).map V.ref))) U (ascii "car" :: c.name::[c.from_,c.to_,c.need,c.rate].map decimal):=LL.mk rU (.cons (((hG.sm (t:=t) SW).sm (t:=t) SJ).sm (t:=t) SU) (.cons (((hnm.sm (t:=t) SW).sm (t:=t) SJ).sm (t:=t) SU) (gg.imp fun _ _ h=>h.sm (t:=t) SU)))
  have t1:tot (ascii "car" :: c.name::[c.from_,c.to_,c.need,c.rate].map decimal)≤61:=by
   have:=zXV numB
   show 3+1+(c.name.length+1+tot ([c.from_,c.to_,c.need,c.rate].map decimal))≤_
   simp only [zlc,List.length_nil] at this
   lia
  have l1:=zZK (ascii "car" :: c.name::[c.from_,c.to_,c.need,c.rate].map decimal)
  refine ⟨_,rfl,U,_,rfl,lU,by simp,(by decide:6≤1000),by lia,fun R L SL nL hL=>?_⟩
  have SA:=((SS.trans SJ).trans SU).trans SL
  have hA3:=hA2.sm (t:=t) SA
  have eT:lineText (ascii "car" :: c.name::[c.from_,c.to_,c.need,c.rate].map decimal)=c.text:=rfl
  rw [eT] at hL l1
  refine extI hA3 hL (by rw [xT,xT];lia) ⟨((S12.trans SN).trans SA).acc nX0 hA3,_,_,rfl,?_,?_⟩
  ·have eC:d.cars.take (i+1)=d.cars.take i++[c]:=by
    rw [List.take_add_one,ec]
    rfl
   rw [eC,List.flatMap_append,←zaa,zUt (A2++(d.cars.take i).flatMap Car.text)]
   show upd _ X _ X=_
   rw [zX,List.flatMap_cons,List.flatMap_nil,List.append_nil]
  ·have eC:d.cars.take (i+1)=d.cars.take i++[c]:=by
    rw [List.take_add_one,ec]
    rfl
   rw [eC,List.flatMap_append,←zaa,zla,List.flatMap_cons,List.flatMap_nil,List.append_nil]
   lia
 ·rintro σ H1 ⟨S1,o1,o2,rfl,hA,lA⟩
  refine ⟨_,rfl,k0 X H1 S1 nX0 ?_⟩
  have e:A2++(d.cars.take (as.map V.ref).length).flatMap Car.text=d.text:=by
   rw [zlm,f6.len,List.take_length,←e2]
   unfold Day.text GarPlug.rowLine Day.slots
   rw [zaa,zaa]
  rw [e] at hA
  exact hA
end
end Cc
namespace L2
open PySem PySem.Spec PyProof.Rows
structure FunC (K:Fg) (x:Str) (st:Stmt) (c f:Addr) (fd:FuncData):Prop where
 ex:∃(oc:Value) (od:Option Addr) (kV doc pm:Value) (an:Option Addr) (ct:Value) (osl:Array (Option Value)),
  fd=PySem.W.fnOf x x (wY st) (vY st) (zU st) .none kV doc pm an (.ref c) ct∧K.lookup f=some ⟨oc,od,.func fd,osl⟩∧PySem.W.codeIn K (.ref c) x=true
 kp:PySem.W.keepIn K (.ref f)=true
def HasC (K:Fg) (mg:Str→Option Value) (x:Str) (st:Stmt) (c:Addr):Prop:=∃f fd,FunC K x st c f fd∧mg x=some (.ref f)
section
variable {P:Program}{w:World}{K:Fg}{mg:Str→Option Value}{base:Heap}{k:Nat}{x:Str}{st:Stmt}{N:List Str}{c:Addr}
theorem z4j {p:Str}{g:V→Hp→VK→Prop} (D:HasC K mg x st c) (S:zO N [p] (zU st))
  (b:∀a H Q,g a H Q→∀(f:Addr) (A:Around) (outer:List Env) (s:Shared) (E:XK),Room k (A.deeper (envOfC x (zU st) s.heap.objs.size f (.ref c)))→
   ∃t,PSs (cxOf CX0 P w K mg base N x (zU st) f (.ref c) A outer s H E).nox (vY st) t∧t { nx:=fun _ H'=>Q .non H',rt:=Q } (start N [a]) H) (bd:∀(kV doc pm:Value) (an:Option Addr) (cdv ct:Value) (us:List Value),us.length=([p]:List Str).length→bindArgs (PySem.W.fnOf x x (wY st) (vY st) (zU st) .none kV doc pm an cdv ct) ⟨us,[]⟩=pure (([p]:List Str).zip us):=by exact fun _ _ _ _ _ _ us hl=>match us,hl with|[_],_=>rfl):Own P w K mg base (k+1) x [p] (Sp1 g):=by
 obtain ⟨f,fd,F,m⟩:=D
 obtain ⟨oc,od,kV,doc,pm,an,ct,osl,rfl,lk,hcd⟩:=F.ex
 refine ⟨f,_,z4l lk hcd S (fun vs H Q E ⟨a,e,_⟩=>by rw [e];rfl) fun A outer s H vs Q E hr ⟨a,e,h⟩=>?_,m,F.kp,.all (bd kV doc pm an (.ref c) ct)⟩
 subst e
 obtain ⟨u,h1,q⟩:=b a H Q h f A outer s E hr
 exact ⟨u,h1.nox,q⟩
end
theorem zVU (a b:Int) (r u:List Int):lxLt (a::r) (b::u)=(decide (a < b) || (!decide (b < a) && lxLt r u)):=by
 show PyProof.Rows.lexLt itemOrd (Sum.inl a::r.map Sum.inl) (Sum.inl b::u.map Sum.inl)=_
 rw [PyProof.Rows.lex_cons]
 rfl
theorem z2N:lxLt [] []=false:=rfl
end L2
namespace Cc
open PySem PySem.Spec PyProof.Rows L2
open GarText (Bytes)
open GarPlug (Car Day)
open GarLoad
structure TxtB (K:Fg) (mg:Str→Option Value) (base:Heap) (t:Adr):Prop extends Txt K mg t where
 c_dearest_first:HasC K mg "dearest_first" vQ t.c1
 c_refused_set:HasC K mg "refused_set" jR t.c2
 l1:zT0 mg base t.c1 (L1 t)
 l2:zT0 mg base t.c2 (L2_ t)
 pp:t.P1≠t.P2
section
variable {X:Cx} (K:Fg)
theorem zRS {es:List Expr}{k:Nat}{pos:Pos}{t:TGs}{n:Nat} (hc:X.calm=true) (h:PGs X es t) (hK:X.K=K:=by rfl)
  (hn:(assignEach es X.env).length=n:=by rfl) (hst:(assignEach es X.env).findIdx? (·.1)=none:=by rfl):PG X (.Tuple es k pos) (gTup K n t):=by
 subst hK
 exact z42 hc h hn hst
theorem zRd {e e2:Expr}{ta:TA}{p pos tpos:Pos}{elts:List Expr}{kk:Nat} (hg:Gl X "zip") (hm:X.mg "zip" = none) (ha:PA X [e,e2] ta) (hK:X.K=K:=by rfl)
  (hs:starEach [e,e2] X.env=(false,eval e X.env)::starEach [e2] X.env:=by rfl) (hpl:(backTo pos (starEach [e2] X.env)).any (·.1)=false:=by rfl):
  PI X (.Tuple elts kk tpos) (.Call (.Name "zip" p) [e,e2] [] pos) (iZip K ta):=by
 subst hK
 exact z4d hg hm ha hs hpl
end
section
variable {P:Program}{w:World}{K:Fg}{mg:Str→Option Value}{base:Heap}{t:Adr}
theorem z46:zX4 "slot" "prices" { kind:=.function,names:=[("slot", .local),("prices", .free)],isGenerator:=false,isCoroutine:=false } where
 kind:=rfl
 co:=rfl
 gen:=rfl
 ne:=by decide +kernel
 par:=by decide +kernel
 fre:=by decide +kernel
 nocell:=fun y hy z=>by
  rcases List.mem_cons.mp hy with q|q
  ·rw [q] at z
   cases z
  ·rw [List.mem_singleton.mp q] at z
   cases z
 onlyf:=fun y e=>by
  rw [List.lookup_cons] at e
  split at e
  ·cases e
  ·rw [List.lookup_cons] at e
   split at e
   ·rename_i q
    exact eq_of_beq q
   ·cases e
theorem z4v:zX4 "number" "sets" { kind:=.function,names:=[("number", .local),("sets", .free),("len", .globalImplicit),("wants", .globalImplicit)],isGenerator:=false,isCoroutine:=false } where
 kind:=rfl
 co:=rfl
 gen:=rfl
 ne:=by decide +kernel
 par:=by decide +kernel
 fre:=by decide +kernel
 nocell:=fun y hy z=>by
  rcases List.mem_cons.mp hy with q|hy
  ·rw [q] at z
   cases z
  ·rcases List.mem_cons.mp hy with q|hy
   ·rw [q] at z
    cases z
   ·rcases List.mem_cons.mp hy with q|hy
    ·rw [q] at z
     cases z
    ·rw [List.mem_singleton.mp hy] at z
     cases z
 onlyf:=fun y e=>by
  rw [List.lookup_cons] at e
  split at e
  ·cases e
  ·rw [List.lookup_cons] at e
   split at e
   ·rename_i q
    exact eq_of_beq q
   ·rw [List.lookup_cons] at e
    split at e
    ·cases e
    ·rw [List.lookup_cons] at e
     split at e
     ·cases e
     ·cases e
theorem z5D {f:Addr}{A:Around}{outer:List Env}{s:Shared}{H:Hp}{E:XK}:(cxOf CX0 P w K mg base ["prices"] "dearest_first" (zU vQ) f (.ref t.c1) A outer s H E).nox.env.qual ++ "<lambda>" = (L1 t).qual:=rfl
theorem z5C {f:Addr}{A:Around}{outer:List Env}{s:Shared}{H:Hp}{E:XK}:(cxOf CX0 P w K mg base ["day", "sets", "ranked", "place"] "refused_set" (zU jR) f (.ref t.c2) A outer s H E).nox.env.qual ++ "<lambda>" = (L2_ t).qual:=rfl
theorem one1 (h:t.P1≠t.P2):∀L'∈Ts t,L'.P=(L1 t).P→L'=L1 t:=by
 intro L' hL e
 rcases List.mem_cons.mp hL with q|q
 ·exact q
 ·rw [List.mem_singleton.mp q] at e
  exact absurd e.symm h
theorem one2 (h:t.P1≠t.P2):∀L'∈Ts t,L'.P=(L2_ t).P→L'=L2_ t:=by
 intro L' hL e
 rcases List.mem_cons.mp hL with q|q
 ·rw [q] at e
  exact absurd e h
 ·exact List.mem_singleton.mp q
inductive zYA (t:Adr) (a:V) (H:Hp) (Q:VK):Prop
 | mk (p:Addr) (pri:List Nat) (_:a=.ref p) (_:IL H p (zn pri)) (_:pri.length≤100) (_:TabsOk (Ts t) H) (_:RZ t H Q (zn (byPrice pri))):zYA t a H Q
theorem zW1 (T:TxtB K mg base t):Own P w K mg base 5 "dearest_first" ["prices"] (Sp1 (zYA t)):=by
 refine z4j T.c_dearest_first zVD fun a H Q h f A outer s E hr=>?_
 obtain ⟨p,pri,rfl,hp,hl,tab,k0⟩:=h
 refine ⟨_,(zV (zQ (z0W (k:=0) (Ts:=Ts t) (L:=L1 t) (c:=t.c1) (p:="slot") (x:="prices") (ix:=0) ⟨rfl,one1 T.pp,T.l1,rfl,z5D,rfl,rfl,⟨_,rfl,rfl⟩,rfl,rfl,z46,fun _ _ _ _ _=>rfl⟩ hr.o (fun _ _ _ _ _ _ _ hr2=>(zR4 (zZ (yP (z4 K) (pv 1) (pv 0) (fun _ _=>rfl)) (zZ (pv 0) zY)))) (by rfl) T.b_sorted (zZ (jS zQk (by rfl) T.b_range zUk (zZ (y8 K T.b_len (zZ (pv 0) zY)) zY)) zY)))),?_⟩
 refine ⟨_,rfl,lenI hp ⟨pri.length,by rw [z6],fun r hr0=>?_⟩⟩
 have S0:Sm (Ts t) H (upd H r (.rng 0 pri.length)):=Sm.new hr0
 refine ⟨r,pri.length,.ref p,fun k=>[((pri.getD k 0:Nat):Int),(k:Int)],rfl,zX,by lia,(S0.ok tab) _ (List.mem_cons_self ..),rfl,(fun k hk z=>by cases z),fun k H2 hk S2=>?_,fun ks D H3 R S3 nD hD=>?_⟩
 ·have hp2:=(hp.sm (t:=t) S0).sm (t:=t) S2
  refine ⟨_,rfl,_,rfl,zSO hp2 (zVg (by rw [zge hk,Chg.vX hk])) ⟨_,rfl,sz rfl,fun a ha=>⟨Sm.new ha,a,rfl,zX⟩⟩⟩
 ·have e:ks=byPrice pri:=by
   refine Chg.z2X (fun x=>?_) ?_
   ·rw [R.perm.mem_iff,List.mem_range]
   ·have nd:ks.Nodup:=R.perm.nodup_iff.mpr List.nodup_range
    refine (R.ord.and nd).imp fun {i j} h=>?_
    obtain ⟨h,hne⟩:=h
    rw [if_pos rfl,zVU,zVU,z2N] at h
    rw [Chg.zXg]
    simp only [Bool.or_eq_false_iff,Bool.and_eq_false_iff,Bool.not_eq_false',decide_eq_false_iff_not,zde,Bool.and_false,Bool.or_false] at h
    lia
  rw [←e] at k0
  refine k0 D H3 (S0.trans S3) (S0.free nD) ?_
  show H3 D=_
  rw [hD,z1P,List.map_map]
  rfl
end
open PySem PySem.Spec PyProof.Rows L2
open GarText (Bytes)
open GarPlug (Car Day)
open GarLoad
open Chg (canTake xY qZ uS zZC tk yT pick excL lowL x9)
theorem z4k (y:List Nat) (k v:Nat):((zn y).map V.int).set k (.int (v:Int))=(zn (y.set k v)).map V.int:=by
 unfold zn
 rw [List.map_set,List.map_set]
theorem z3T {n k:Nat} (h:k < n):ixN n (k:Int)=some k:=by
 unfold ixN
 rw [if_pos (Int.natCast_nonneg k),if_pos (by lia),Int.toNat_natCast]
theorem int_at {l:List Nat}{j:Nat}{x:V} (e:((zn l).map V.int)[j]?=some x):j < l.length∧x=.int (l.getD j 0:Nat):=by
 have hj:j < l.length:=by
  have:=(List.getElem?_eq_some_iff.mp e).1
  rw [zlm,z6] at this
  exact this
 rw [zgm,zVg (zge hj)] at e
 rw [Chg.vX hj]
 exact ⟨hj,(zsi e).symm⟩
theorem zYP {K:Fg}{H:Hp}{a:Addr}{l:List Nat}{k:Nat}{Q:VK} (h:IL H a (zn l)) (hk:k < l.length) (q:Q (.int (l.getD k 0:Nat)) H):rIxL K (.ref a) (.int k) H Q:=
 zSO h (zVg (by rw [zge hk,Chg.vX hk])) q
theorem zRl {H:Hp}{a:Addr}{l:List Nat}{k v:Nat}{R:Hp→Prop} (h:IL H a (zn l)) (hk:k < l.length) (q:R (upd H a (.lst ((zn (l.set k v)).map V.int)))):z2h (.ref a) (.int k) (.int (v:Int)) H R:=
 ⟨a,_,_,k,rfl,rfl,h,by rw [zlm,z6];exact z3T hk,by rw [z4k];exact q⟩
theorem u7 {p:List Nat}{x:Nat} (h:x∈byPrice p):x < p.length:=by
 have gen:∀(l:List Nat),(∀y∈l,y < p.length)→∀x∈l.foldr (putBy p) [],x < p.length:=by
  intro l
  induction l with
  | nil=>exact fun _ x hx=>by cases hx
  | cons y l ih=>
   intro hl x hx
   have put:∀(m:List Nat),x∈putBy p y m→x=y∨x∈m:=by
    intro m
    induction m with
    | nil=>exact fun h=>.inl (List.mem_singleton.mp h)
    | cons u r ihr=>
     intro h
     rw [putBy] at h
     split at h
     ·exact List.mem_cons.mp h
     ·rcases List.mem_cons.mp h with q|q
      ·exact .inr (by rw [q];exact List.mem_cons_self ..)
      ·rcases ihr q with z|z
       ·exact .inl z
       ·exact .inr (zmc _ z)
   rcases put _ hx with q|q
   ·rw [q]
    exact hl y (List.mem_cons_self ..)
   ·exact ih (fun z hz=>hl z (zmc _ hz)) x q
 exact gen _ (fun y hy=>List.mem_range.mp hy) x h
section
variable {P:Program}{w:World}{K:Fg}{mg:Str→Option Value}{base:Heap}{t:Adr}
theorem xQ {H:Hp}{a:Addr}{d:Day} (h:DayR t H a d):∃dx nm sp pr cs as,H a=some (.ins t.CD dx (dayF nm sp pr cs))∧IL H nm (zb d.name)∧IL H sp (zn d.supply)∧IL H pr (zn d.price)∧RefL H cs as∧All2 (zZe t H) as d.cars:=by
 obtain ⟨dx,nm,sp,pr,cs,h1,h2,h3,h4,as,h5,h6⟩:=h
 exact ⟨dx,nm,sp,pr,cs,as,h1,h2,h3,h4,h5,h6⟩
section
variable {H:Hp}{a:Addr}{dx nm sp pr cs:Addr}{Q:VK}
theorem dn (T:Txt K mg t) (h:H a=some (.ins t.CD dx (dayF nm sp pr cs))) (q:Q (.ref nm) H):FldI K "name" (.ref a) H Q:=⟨a,_,dx,_,_,rfl,h,T.k_Day.cl,T.k_Day.no _ (by decide +kernel),zS2,q⟩
theorem ds (T:Txt K mg t) (h:H a=some (.ins t.CD dx (dayF nm sp pr cs))) (q:Q (.ref sp) H):FldI K "supplies" (.ref a) H Q:=⟨a,_,dx,_,_,rfl,h,T.k_Day.cl,T.k_Day.no _ (by decide +kernel),zWD,q⟩
theorem dp (T:Txt K mg t) (h:H a=some (.ins t.CD dx (dayF nm sp pr cs))) (q:Q (.ref pr) H):FldI K "prices" (.ref a) H Q:=⟨a,_,dx,_,_,rfl,h,T.k_Day.cl,T.k_Day.no _ (by decide +kernel),zV7,q⟩
theorem dc (T:Txt K mg t) (h:H a=some (.ins t.CD dx (dayF nm sp pr cs))) (q:Q (.ref cs) H):FldI K "cars" (.ref a) H Q:=⟨a,_,dx,_,_,rfl,h,T.k_Day.cl,T.k_Day.no _ (by decide +kernel),zV3,q⟩
end
inductive zWx (t:Adr) (a:V) (H:Hp) (Q:VK):Prop
 | mk (p:Addr) (d:Day) (_:a=.ref p) (_:DayR t H p d) (_:DayB d) (_:TabsOk (Ts t) H) (_:RZ t H Q (zn (loadsOf (tk d.cars d.supply) d.price))):zWx t a H Q
theorem kZ (T:TxtB K mg base t):Own P w K mg base 6 "told_loads" ["day"] (Sp1 (zWx t)):=by
 refine own1 T.d_told_loads zZg fun a H Q h f cdv A outer s E hr=>?_
 obtain ⟨p,d,rfl,hd,B,tab,k0⟩:=h
 refine ⟨_,(zW (yY (i:=1) zZg.nd (zS (vP T.toTxt) hr.o (zZ (zR K (pv 0) rfl) zY)))
   (zW (yY (i:=2) zZg.nd (jS (zVO K) (by rfl) T.b_list (by decide +kernel) (zZ (zR K (pv 0) rfl) zY)))
   (zW (kQ PassesOwn.never rfl (yV K (zS (zW1 T) hr.o (zZ (zR K (pv 0) rfl) zY))) (yZ (i:=3) zZg.nd)
   (zV (zQq (zS (qY T.toTxt) hr.o (zZ (pv 1) (zZ (pv 2) (zZ (pv 3) zY)))) (zQt (pv 2) (pv 3) set_list))))
   (zV (zQ (pv 2)))))),?_⟩
 obtain ⟨dx,nm,sp,pr,cs,as,h1,h2,h3,h4,h5,h6⟩:=xQ hd
 have b2:=B.hi
 have b4:=B.pr
 refine ⟨_,rfl,dc T.toTxt h1 ⟨_,rfl,cs,as,rfl,h5,by rw [h6.len];exact B.cars,fun D1 H1 S1 n1 hN=>?_⟩⟩
 have hS:=hN.a
 refine ⟨_,rfl,ds T.toTxt (S1.keep _ _ h1 z0) (listI (h3.sm S1) fun Ld hLd=>?_)⟩
 have SL:Sm (Ts t) H1 (upd H1 Ld (.lst ((zn d.supply).map V.int))):=Sm.new hLd
 have S1L:=S1.trans SL
 refine ⟨_,rfl,dp T.toTxt (S1L.keep _ _ h1 z0) ⟨_,rfl,pr,d.price,rfl,h4.sm S1L,by lia,S1L.ok tab,fun B1 H2 S2 nB hB=>?_⟩⟩
 have nB1:H1 B1=none:=SL.free nB
 have LB:Ld≠B1:=zT zX nB
 have Sb:Sm (Ts t) (upd H1 B1 (.lst ((zn (byPrice d.price)).map V.int))) H2:=(SL.trans S2).put nB1 hB
 have sB:SqL K (upd H1 B1 (.lst ((zn (byPrice d.price)).map V.int))) B1 ((zn (byPrice d.price)).map V.int):=SqL.of zX
 have nLb:upd H1 B1 (.lst ((zn (byPrice d.price)).map V.int)) Ld=none:=by
  rw [zP LB]
  exact hLd
 have S1b:Sm (Ts t) H1 (upd H1 B1 (.lst ((zn (byPrice d.price)).map V.int))):=Sm.new nB1
 refine ⟨B1,rfl,⟨_,SqL.of hB⟩,k7 (Ts:=Ts t) (y6.seq sB) (fun i σ H'=>Sm (Ts t) (upd H1 B1 (.lst ((zn (byPrice d.price)).map V.int))) H'∧∃oc,σ=[some (.ref p),some (.ref D1),some (.ref Ld),oc]∧IL H' Ld (zn (((byPrice d.price).take i).foldl (lowL d.cars) d.supply))) (fun _ _ _ h=>h.1) ⟨Sb,none,rfl,?_⟩ ?_ ?_⟩
 ·exact S2.keep _ _ zX yR
 ·rintro i x σ H3 H4 hi ⟨S3,oc,rfl,hy⟩ S4 it
  obtain ⟨hi,rfl⟩:=int_at it
  have hk:(byPrice d.price).getD i 0 < d.price.length:=by
   rw [Chg.vX hi]
   exact u7 (List.getElem_mem hi)
  have ly:=Chg.j9 d.cars ((byPrice d.price).take i) d.supply
  have S14:=S1b.trans (S3.trans S4)
  have hy4:=hy.sm (t:=t) S4
  refine ⟨_,rfl,_,rfl,_,rfl,_,_,_,rfl,D1,Ld,as,d.cars,((byPrice d.price).take i).foldl (lowL d.cars) d.supply,(byPrice d.price).getD i 0,rfl,rfl,rfl,hS.sm S14,wZ h6 (S1.trans S14),B.cars,hy4,by lia,by lia,fun H5 S5=>?_⟩
  have hy5:=hy4.sm (t:=t) S5
  refine ⟨_,rfl,_,rfl,zRl hy5 (by lia) ⟨((S3.trans S4).trans S5).acc nLb hy5,_,rfl,?_⟩⟩
  rw [take_snoc 0 hi,List.foldl_append]
  exact zX
 ·rintro σ H3 ⟨S3,oc,rfl,hy⟩
  rw [zlm,z6,List.take_length,←Chg.zTd] at hy
  exact ⟨_,rfl,k0 Ld H3 (S1.trans (S1b.trans S3)) (S1.free hLd) hy⟩
inductive zTf (t:Adr) (a:V) (b:V) (H:Hp) (Q:VK):Prop
 | mk (p q:Addr) (y pr:List Nat) (_:a=.ref p) (_:b=.ref q) (_:IL H p (zn y)) (_:IL H q (zn pr)) (_:pr.length=y.length) (_:y.length≤100) (_:(∀n∈pr,n≤999)) (_:RI t H Q (costOf pr y:Nat)):zTf t a b H Q
theorem zXK (T:Txt K mg t):Own P w K mg base 1 "cost_of" ["loads", "prices"] (Sp2 (zTf t)):=by
 refine own2 T.d_cost_of zXd fun a b H Q h f cdv A outer s E hr=>?_
 obtain ⟨p,q,y,pr,rfl,rfl,h1,h2,hl,hy,hb,k0⟩:=h
 refine ⟨_,(zV (zQ (yS (sumK K rfl) (by rfl) T.b_sum (by decide +kernel) (zZ (zZf (own:=[("load", 2),("price", 3)]) rfl zXd.nd (zRd K (by rfl) T.b_zip (zZ (pv 0) (zZ (pv 1) zY))) (yU rfl) (fun _ _ _ _ _=>(zRS K (n:=2) rfl (zXh (yZ (i:=2) zXd.nd) (zXh (yZ (i:=3) zXd.nd) zRE)))) (fun _ _ _ _ _=>y4) (fun _ _ _ _ _=>(yQ zUz (pv 2) (pv 3)))) zY)))),?_⟩
 have ln:min ((zn y).map V.int).length ((zn pr).map V.int).length=y.length:=by
  rw [zlm,zlm,z6,z6]
  lia
 refine ⟨_,rfl,_,rfl,p,q,_,_,rfl,SqL.of h1,SqL.of h2,fun D nD=>zYz (Ts:=Ts t) (y6.zip (SqL.of h1) (SqL.of h2)) nD (by rw [ln];lia) (fun j=>((pr.getD j 0 * y.getD j 0:Nat):Int)) (fun j v H' Q' hj S' it k'=>?_) fun H' S' hD=>?_⟩
 ·obtain ⟨T',x,z,rfl,hT,e1,e2⟩:=it
  obtain ⟨hj1,rfl⟩:=int_at e1
  obtain ⟨hj2,rfl⟩:=int_at e2
  refine ⟨T',_,rfl,.inl (.inl hT),rfl,_,_,rfl,_,_,rfl,rfl,rfl,_,rfl,_,rfl,_,_,rfl,rfl,.inr ⟨by lia,?_⟩,?_⟩
  ·have:=hb _ (List.getElem_mem hj2)
   rw [←Chg.vX hj2 (d:=0)] at this
   have h999:((pr.getD j 0:Nat):Int)≤999:=by lia
   exact Int.lt_of_le_of_lt h999 (by decide)
  ·have e:((y.getD j 0:Nat):Int) * ((pr.getD j 0:Nat):Int)=((pr.getD j 0 * y.getD j 0:Nat):Int):=by
    rw [Int.natCast_mul,Int.mul_comm]
   show Q' (.int (((y.getD j 0:Nat):Int) * ((pr.getD j 0:Nat):Int))) H'
   rw [e]
   exact k' H' (Sm.refl _)
 ·rw [ln] at hD
  refine sumI hD ?_
  have e:((List.range y.length).map fun j=>((pr.getD j 0 * y.getD j 0:Nat):Int)).sum=((costOf pr y:Nat):Int):=by
   rw [Chg.z1C hl,←Chg.zRO,←zVw]
   unfold zn
   rw [List.map_map]
   rfl
  rw [e]
  exact k0 H' S'
end
open PySem PySem.Spec PyProof.Rows L2
open GarText (Bytes)
open GarPlug (Car Day)
open GarLoad
open Chg (canTake xY qZ uS zZC tk yT pick excL lowL x9)
theorem set_int {H:Hp}{a:Addr}{l:List Nat}{k v:Nat}{z:Int}{R:Hp→Prop} (h:IL H a (zn l)) (hk:k < l.length) (e:z=(v:Int)) (q:R (upd H a (.lst ((zn (l.set k v)).map V.int)))):z2h (.ref a) (.int k) (.int z) H R:=by
 rw [e]
 exact zRl h hk q
section
variable {P:Program}{w:World}{K:Fg}{mg:Str→Option Value}{base:Heap}{t:Adr}
inductive zVn (t:Adr) (a:V) (b:V) (H:Hp) (Q:VK):Prop
 | mk (p q:Addr) (d:Day) (loads:List Nat) (_:a=.ref p) (_:b=.ref q) (_:DayR t H p d) (_:DayB d) (_:IL H q (zn loads)) (_:loads.length=d.supply.length) (_:feasible (tk d.cars loads)=true) (_:sumOf loads=sumOf (tk d.cars loads).needs) (_:∀left plan,x9 d.cars loads d.cars.length 0 left plan→RZ t H Q (zn plan)):zVn t a b H Q
theorem zX8 (T:Txt K mg t):Own P w K mg base 5 "told_plan" ["day", "loads"] (Sp2 (zVn t)):=by
 refine own2 T.d_told_plan xO fun a b H Q h f cdv A outer s E hr=>?_
 obtain ⟨p,q,d,loads,rfl,rfl,hd,B,hq,hlen,F,Sm0,k0⟩:=h
 refine ⟨_,(zW (yY (i:=2) xO.nd (jS (zVO K) (by rfl) T.b_list (by decide +kernel) (zZ (pv 1) zY)))
   (zW (yY (i:=3) xO.nd (y8 K T.b_len (zZ (pv 1) zY)))
   (zW (yY (i:=4) xO.nd (yX zY))
   (zW (kQ PassesOwn.never rfl (wO (by rfl) T.b_range (zZ (y8 K T.b_len (zZ (zR K (pv 0) rfl) zY)) zY)) (yZ (i:=5) xO.nd)
   (zW (yY (i:=6) xO.nd (zS (vP T) hr.o (zZ (y9 (xZ K) (zR K (pv 0) rfl) (xX (yQ vR (pv 5) z3)) v8) zY)))
   (zV (kQ PassesOwn.never rfl (wO (by rfl) T.b_range (zZ (pv 3) zY)) (yZ (i:=7) xO.nd)
   (zW (yY (i:=8) xO.nd (yQ zZL (yP (z4 K) (pv 2) (pv 7) (fun _ _=>rfl)) (zS (qY T) hr.o (zZ (pv 6) (zZ (pv 2) (zZ (pv 7) zY))))))
   (zW (yY (i:=9) xO.nd (yS (zSS rfl) (by rfl) T.b_min (by decide +kernel) (zZ (zS (zYT T) hr.o (zZ (yP (z4 K) (zR K (pv 0) rfl) (pv 5) (fun _ _=>rfl)) (zZ (pv 7) zY))) (zZ (pv 8) zY))))
   (zW (zQq (yQ zZL (yP (z4 K) (pv 2) (pv 7) (fun _ _=>rfl)) (pv 9)) (zQt (pv 2) (pv 7) set_list))
   (zV (jZ (zXp PySem.F.plainAttrs_list PySem.F.slot_list_append PySem.F.type_list_append zZy (pv 4) (zZ (pv 9) zY)))))))))))
   (zV (zQ (pv 4))))))),?_⟩
 obtain ⟨dx,nm,sp,pr,cs,as,h1,h2,h3,h4,h5,h6⟩:=xQ hd
 have b2:=B.hi
 have b5:=B.cars
 have las:=h6.len
 refine ⟨_,rfl,listI hq fun Lf hLf=>?_⟩
 have SL:Sm (Ts t) H (upd H Lf (.lst ((zn loads).map V.int))):=Sm.new hLf
 refine ⟨_,rfl,lenI (hq.sm SL) ⟨sz rfl,fun Pl hPl=>?_⟩⟩
 have SP:Sm (Ts t) H (upd (upd H Lf (.lst ((zn loads).map V.int))) Pl (.lst [])):=SL.add hPl
 have nPl:H Pl=none:=SL.free hPl
 have LP:Lf≠Pl:=zT zX hPl
 refine ⟨_,rfl,dc T (SP.keep _ _ h1 z0) (lenR (h5.sm SP) ⟨_,rfl,by lia,by lia,k7 (Ts:=Ts t) (H1:=H) (y6.rng _) (fun c σ H'=>Sm (Ts t) H H'∧∃lf pl o5 o6 o7 o8 o9,σ=[some (.ref p),some (.ref q),some (.ref Lf),some (.int (zn loads).length),some (.ref Pl),o5,o6,o7,o8,o9]∧IL H' Lf (zn lf)∧IL H' Pl (zn pl)∧x9 d.cars loads c 0 lf pl) (fun _ _ _ h=>h.1) ⟨SP,loads,[],none,none,none,none,none,rfl,?_,zX,x9.start F Sm0⟩ ?_ ?_⟩)⟩
 ·show upd _ Pl _ Lf=_
  rw [zP LP,zX]
 ·rintro c x σ H1 H2 hc ⟨S1,lf,pl,o5,o6,o7,o8,o9,rfl,hL,hP,PA⟩ S2 rfl
  rw [Int.toNat_natCast,las] at hc
  have S12:=S1.trans S2
  have hL2:=hL.sm (t:=t) S2
  have hP2:=hP.sm (t:=t) S2
  refine ⟨_,rfl,dc T (S12.keep _ _ h1 z0) ⟨_,rfl,_,_,rfl,rfl,_,rfl,cs,_,rfl,SqL.of (h5.sm S12),fun M hM=>?_⟩⟩
  have c1:cutV (as.map V.ref) (some ((c:Int)+1)) none=(as.drop (c+1)).map V.ref:=by
   rw [List.map_drop]
   exact uZ _ (c+1)
  rw [c1]
  have SM:Sm (Ts t) H2 (upd H2 M (.lst ((as.drop (c+1)).map V.ref))):=Sm.new hM
  have hM1:RefL (upd H2 M (.lst ((as.drop (c+1)).map V.ref))) M (as.drop (c+1)):=zX
  have hL3:=hL2.sm (t:=t) SM
  have hP3:=hP2.sm (t:=t) SM
  have S13:=S12.trans SM
  generalize upd H2 M (.lst ((as.drop (c+1)).map V.ref))=H3 at *
  refine ⟨_,rfl,M,as.drop (c+1),rfl,hM1,by rw [List.length_drop];lia,fun D H4 S4 nD hN=>?_⟩
  refine ⟨_,rfl,_,rfl,by rw [z6];lia,by rw [z6];lia,k7 (Ts:=Ts t) (H1:=H) (y6.rng _) (fun s σ H'=>Sm (Ts t) H H'∧∃lf pl o7 o8 o9,σ=[some (.ref p),some (.ref q),some (.ref Lf),some (.int (zn loads).length),some (.ref Pl),some (.int c),some (.ref D),o7,o8,o9]∧IL H' Lf (zn lf)∧IL H' Pl (zn pl)∧x9 d.cars loads c s lf pl∧zUF H3 H' D (yT (as.drop (c+1)))) (fun _ _ _ h=>h.1) ⟨S13.trans S4,lf,pl,o7,o8,o9,rfl,hL3.sm (t:=t) S4,hP3.sm (t:=t) S4,PA,hN⟩ ?_ ?_⟩
  ·rintro s x σ H5 H6 hs ⟨S5,lf,pl,o7,o8,o9,rfl,hL5,hP5,PA5,hN5⟩ S6 rfl
   rw [Int.toNat_natCast,z6] at hs
   have ll:=PA5.left_len
   have S56:=S5.trans S6
   have hL6:=hL5.sm (t:=t) S6
   have hP6:=hP5.sm (t:=t) S6
   have hN6:=hN5.sm (t:=t) S6
   have cd:All2 (zZe t H6) (as.drop (c+1)) (d.cars.drop (c+1)):=(wZ h6 S56).drop (c+1)
   obtain ⟨vle,PA7⟩:=PA5.step hc hs rfl rfl
   refine ⟨_,rfl,_,rfl,zYP hL6 (by lia) ⟨_,rfl,_,rfl,_,rfl,_,_,_,rfl,D,Lf,as.drop (c+1),d.cars.drop (c+1),lf,s,rfl,rfl,rfl,hN6.a,cd,by rw [List.length_drop];lia,hL6,by lia,by lia,fun H7 S7=>⟨_,_,rfl,rfl,?_⟩⟩⟩
   have S57:=S56.trans S7
   have hca:c < as.length:=by lia
   have ca:=h6.get (zge hca) (by rw [zge hc,←Chg.vX hc (d:=Chg.car0)]:d.cars[c]?=some (d.cars.getD c Chg.car0))
   refine ⟨_,rfl,dc T (S57.keep _ _ h1 z0) ⟨_,rfl,jQ (h5.sm S57) (zge hca) ⟨_,rfl,_,_,rfl,_,_,s,rfl,ca.sm S57,rfl,fun H8 S8=>⟨_,rfl,_,_,rfl,?_⟩⟩⟩⟩
   generalize ex:min (canTake (d.cars.getD c Chg.car0) s) (lf.getD s 0-leastAt (tk (d.cars.drop (c+1)) lf) s)=x at PA7
   have ei:(if ((lf.getD s 0:Nat):Int)-((leastAt (tk (d.cars.drop (c+1)) lf) s:Nat):Int) < ((canTake (d.cars.getD c Chg.car0) s:Nat):Int) then ((lf.getD s 0:Nat):Int)-((leastAt (tk (d.cars.drop (c+1)) lf) s:Nat):Int) else ((canTake (d.cars.getD c Chg.car0) s:Nat):Int))=(x:Int):=by
    split<;>lia
   have xle:x≤lf.getD s 0:=by lia
   have S78:=S7.trans S8
   have hL8:=hL6.sm (t:=t) S78
   have hP8:=hP6.sm (t:=t) S78
   have hN8:=hN6.sm (t:=t) S78
   refine ⟨_,rfl,_,rfl,zYP hL8 (by lia) ⟨_,rfl,_,_,rfl,rfl,_,rfl,_,rfl,?_⟩⟩
   have ev:((lf.getD s 0:Nat):Int)-(x:Int)=((lf.getD s 0-x:Nat):Int):=by lia
   have hP9:IL (upd H8 Lf (.lst ((zn (lf.set s (lf.getD s 0-x))).map V.int))) Pl (zn pl):=by
    unfold IL
    rw [zP LP.symm]
    exact hP8
   have S58:=S57.trans S8
   have S59:=S58.acc (o:=.lst ((zn (lf.set s (lf.getD s 0-x))).map V.int)) hLf hL8
   have lp:=PA5.len
   have lp2:loads.length * c≤12 * 6:=Nat.mul_le_mul (by lia) (by lia)
   refine set_int hL8 (by lia) ((congrArg (fun z:Int=>((lf.getD s 0:Nat):Int)-z) ei).trans ev) ⟨_,rfl,.inl ⟨rfl,_,SqL.of hP9⟩,_,rfl,appI hP9 (by rw [z6];lia) ⟨S59.acc nPl hP9,lf.set s (lf.getD s 0-x),pl++[x],_,_,_,rfl,?_,?_,PA7,?_⟩⟩
   ·unfold IL
    rw [zP LP,zX]
   ·unfold IL
    rw [zX]
    have e2:zn (pl++[x])=zn pl++[(x:Int)]:=List.map_append ..
    rw [e2]
    exact congrArg (fun z:Int=>some (HO.lst ((zn pl++[z]).map V.int))) ei
   ·exact (hN8.upd nD hL3).upd nD hP3
  ·rintro σ H5 ⟨S5,lf,pl,o7,o8,o9,rfl,hL5,hP5,PA5,hN5⟩
   rw [Int.toNat_natCast,z6] at PA5
   exact ⟨S5,lf,pl,_,_,_,_,_,rfl,hL5,hP5,PA5.next⟩
 ·rintro σ H1 ⟨S1,lf,pl,o5,o6,o7,o8,o9,rfl,hL,hP,PA⟩
  rw [Int.toNat_natCast,las] at PA
  exact ⟨_,rfl,k0 lf pl PA Pl H1 S1 nPl hP⟩
end
open PySem PySem.Spec PyProof.Rows L2
open GarText (Bytes)
open GarPlug (Car Day)
open GarLoad
open Chg (canTake xY qZ uS zZC tk yT pick excL lowL x9)
def rowAt (pl:List Nat) (m c:Nat):List Nat:=(pl.take ((c+1) * m)).drop (c * m)
def zYh (pl:List Nat) (m n:Nat):List (List Nat):=(List.range n).map (rowAt pl m)
theorem zZw {pl:List Nat}{m n c:Nat} (h:pl.length=m * n) (hc:c < n):(rowAt pl m c).length=m:=by
 unfold rowAt
 have:(c+1) * m≤n * m:=Nat.mul_le_mul_right m hc
 have e:(c+1) * m=c * m+m:=Nat.succ_mul c m
 have e2:n * m=m * n:=Nat.mul_comm ..
 rw [List.length_drop,List.length_take]
 lia
theorem zYY {pl:List Nat}{m n c u:Nat} (h:pl.length=m * n) (hc:c < n) (hu:u < m):(rowAt pl m c).getD u 0=pl.getD (m * c+u) 0:=by
 unfold rowAt
 have e:(c+1) * m=c * m+m:=Nat.succ_mul c m
 rw [List.getD_eq_getElem?_getD,List.getD_eq_getElem?_getD,List.getElem?_drop,List.getElem?_take_of_lt (by lia),Nat.mul_comm m c]
def zUe (H0 H:Hp) (a:Addr) (rows:List (List Nat)):Prop:=∃qs,RefL H a qs∧All2 (fun q r=>IL H q (zn r)∧H0 q=none) qs rows
theorem zUe.sm {t:Adr}{H0 H H':Hp}{a:Addr}{rows:List (List Nat)} (h:zUe H0 H a rows) (S:Sm (Ts t) H H'):zUe H0 H' a rows:=by
 obtain ⟨qs,h1,h2⟩:=h
 exact ⟨qs,h1.sm S,h2.imp fun _ _ r=>⟨r.1.sm S,r.2⟩⟩
section
variable {P:Program}{w:World}{K:Fg}{mg:Str→Option Value}{base:Heap}{t:Adr}
inductive zWg (t:Adr) (a:V) (H:Hp) (Q:VK):Prop
 | mk (p:Addr) (d:Day) (_:a=.ref p) (_:DayR t H p d) (_:DayB d) (_:TabsOk (Ts t) H) (_:RI t H Q (costNow d:Nat)):zWg t a H Q
theorem zXx (T:TxtB K mg base t):Own P w K mg base 7 "least_cost" ["day"] (Sp1 (zWg t)):=by
 refine own1 T.d_least_cost zTt fun a H Q h f cdv A outer s E hr=>?_
 obtain ⟨p,d,rfl,hd,B,tab,k0⟩:=h
 refine ⟨_,(zV (zQ (zS (zXK T.toTxt) hr.o (zZ (zS (kZ T) hr.o (zZ (pv 0) zY)) (zZ (zR K (pv 0) rfl) zY))))),?_⟩
 have b2:=B.hi
 have b4:=B.pr
 have ll:(loadsOf (tk d.cars d.supply) d.price).length=d.supply.length:=Chg.zWf
 refine ⟨_,rfl,_,rfl,p,d,rfl,hd,B,tab,fun L H1 S1 nL hL=>⟨_,rfl,zRR T.toTxt (hd.sm S1) fun pr hpr=>⟨_,_,rfl,L,pr,_,_,rfl,rfl,hL,hpr,by lia,by lia,B.pri,fun H2 S2=>k0 H2 (S1.trans S2)⟩⟩⟩
inductive zYF (t:Adr) (a:V) (H:Hp) (Q:VK):Prop
 | mk (p:Addr) (d:Day) (_:a=.ref p) (_:DayR t H p d) (_:DayB d) (_:TabsOk (Ts t) H) (_:feasible (tk d.cars d.supply)=true) (_:RZ t H Q (zn (costNow d::planOf d))):zYF t a H Q
theorem zWN (T:TxtB K mg base t):Own P w K mg base 7 "cost_and_plan" ["day"] (Sp1 (zYF t)):=by
 refine own1 T.d_cost_and_plan zYC fun a H Q h f cdv A outer s E hr=>?_
 obtain ⟨p,d,rfl,hd,B,tab,F,k0⟩:=h
 refine ⟨_,(zW (yY (i:=1) zYC.nd (zS (kZ T) hr.o (zZ (pv 0) zY)))
   (zV (zQ (yQ v5 (yX (zZ (zS (zXK T.toTxt) hr.o (zZ (pv 1) (zZ (zR K (pv 0) rfl) zY))) zY)) (zS (zX8 T.toTxt) hr.o (zZ (pv 0) (zZ (pv 1) zY))))))),?_⟩
 have b2:=B.hi
 have b4:=B.pr
 have b5:=B.cars
 have ll:(loadsOf (tk d.cars d.supply) d.price).length=d.supply.length:=Chg.zWf
 obtain ⟨F2,S2⟩:=Chg.z5h (cars:=d.cars) b4 F
 refine ⟨_,rfl,_,rfl,p,d,rfl,hd,B,tab,fun L H1 S1 nL hL=>?_⟩
 refine ⟨_,rfl,_,rfl,zRR T.toTxt (hd.sm S1) fun pr hpr=>⟨_,_,rfl,L,pr,_,_,rfl,rfl,hL,hpr,by lia,by lia,B.pri,fun H2 S2=>⟨sz rfl,fun C hC=>?_⟩⟩⟩
 have SC:Sm (Ts t) H2 (upd H2 C (.lst [V.int (costOf d.price (loadsOf (tk d.cars d.supply) d.price):Nat)])):=Sm.new hC
 have hC1:IL (upd H2 C (.lst [V.int (costOf d.price (loadsOf (tk d.cars d.supply) d.price):Nat)])) C (zn [costNow d]):=zX
 have S1C:=S1.trans (S2.trans SC)
 refine ⟨_,rfl,_,rfl,_,_,rfl,p,L,d,_,rfl,rfl,hd.sm S1C,B,hL.sm (t:=t) (S2.trans SC),ll,F2,by assumption,fun left plan PA M H3 S3 nM hM=>?_⟩
 have ep:planOf d=plan:=by
  rw [Chg.z4U]
  exact PA.all
 have lp:=PA.len
 have lp2:(loadsOf (tk d.cars d.supply) d.price).length * d.cars.length≤12 * 6:=Nat.mul_le_mul (by lia) (by lia)
 refine ⟨C,M,_,_,rfl,rfl,hC1.sm (t:=t) S3,hM,?_,fun R hR=>k0 R _ ((S1C.trans S3).add hR) ((S1C.trans S3).free hR) ?_⟩
 ·rw [zlm,zlm,z6,z6,sizeLine_eq]
  simp only [List.length_singleton]
  lia
 ·show upd _ R _ R=_
  rw [zX,ep]
  rfl
inductive zTm (t:Adr) (a:V) (b:V) (H:Hp) (Q:VK):Prop
 | mk (p q:Addr) (pl:List Nat) (d:Day) (_:a=.ref p) (_:b=.ref q) (_:IL H p (zn pl)) (_:DayR t H q d) (_:DayB d) (_:pl.length=d.supply.length * d.cars.length) (_:∀D H',Sm (Ts t) H H'→H D=none→zUe H H' D (zYh pl d.supply.length d.cars.length)→Q (.ref D) H'):zTm t a b H Q
theorem zUM (T:Txt K mg t):Own P w K mg base 1 "rows_of" ["plan", "day"] (Sp2 (zTm t)):=by
 refine own2 T.d_rows_of zY4 fun a b H Q h f cdv A outer s E hr=>?_
 obtain ⟨p,q,pl,d,rfl,rfl,hp,hd,B,lp,k0⟩:=h
 refine ⟨_,(zW (yY (i:=2) zY4.nd (y8 K T.b_len (zZ (zR K (pv 1) rfl) zY)))
   (zV (zQ (zZf (own:=[("number", 3)]) rfl zY4.nd (wO (by rfl) T.b_range (zZ (y8 K T.b_len (zZ (zR K (pv 1) rfl) zY)) zY)) (yU rfl) (fun _ _ _ _ _=>(yZ (i:=3) zY4.nd)) (fun _ _ _ _ _=>y4) (fun _ _ _ _ _=>(y9 (xZ K) (pv 0) (xX (yQ zUz (pv 3) (pv 2))) (xX (yQ zUz (yQ vR (pv 3) z3) (pv 2))))))))),?_⟩
 have b2:=B.hi
 have b5:=B.cars
 refine ⟨_,rfl,zUj T hd fun sp hsp=>lenI hsp ?_⟩
 refine ⟨_,rfl,zQg T hd fun cs hcs=>lenC hcs ⟨_,rfl,by lia,by lia,fun D nD=>?_⟩⟩
 refine zUc (Ts:=Ts t) (y6.rng _) nD (by rw [Int.toNat_natCast];lia) (fun j y H'=>∃r,y=.ref r∧r≠D∧H r=none∧IL H' r (zn (rowAt pl d.supply.length j))) (fun j y Ha Hb Sab ⟨r,e1,e2,e3,e4⟩=>⟨r,e1,e2,e3,e4.sm Sab⟩) (fun j y Ha o ⟨r,e1,e2,e3,e4⟩=>⟨r,e1,e2,e3,by unfold IL;rw [zP e2];exact e4⟩) ?_ ?_
 ·intro j y H3 Q' hj S3 ⟨acc,hacc⟩ it k
  subst it
  rw [Int.toNat_natCast] at hj
  have em:((j:Int) * ((zn d.supply).length:Int))=((j * d.supply.length:Nat):Int):=by
   rw [z6,Int.natCast_mul]
  have em2:(((j:Int)+1) * ((zn d.supply).length:Int))=(((j+1) * d.supply.length:Nat):Int):=by
   rw [z6,Int.natCast_mul]
   rfl
  have hle:(j+1) * d.supply.length≤pl.length:=by
   rw [lp,Nat.mul_comm]
   exact Nat.mul_le_mul_left _ hj
  have small:∀z:Int,0≤z→z≤1000→-(2 ^ 64) < z∧z < 2 ^ 64:=fun z h1 h2=>⟨Int.lt_of_lt_of_le (by decide) h1,Int.lt_of_le_of_lt h2 (by decide)⟩
  refine ⟨rfl,_,rfl,_,rfl,_,rfl,_,_,rfl,rfl,.inl (small _ (by lia) (by lia)),_,rfl,_,rfl,_,_,rfl,rfl,_,rfl,_,_,rfl,rfl,.inl (small _ (by lia) (by lia)),_,rfl,p,_,rfl,SqL.of (hp.sm S3),fun r hr=>?_⟩
  rw [em,em2,zTT _ (by rw [zlm,z6];exact hle)]
  refine k _ _ (Sm.new hr) ⟨r,rfl,(zT hacc hr).symm,S3.free hr,?_⟩
  show upd _ r _ r=_
  rw [zX]
  unfold rowAt zn
  rw [List.map_drop,List.map_take,List.map_drop,List.map_take]
 ·intro ys H3 S3 hys hR hD
  obtain ⟨rs,rfl⟩:=zXG ys fun j y ej=>by
   obtain ⟨q,e1,_⟩:=hR j y ej
   exact ⟨q,e1⟩
  rw [zlm,Int.toNat_natCast] at hys
  refine k0 D H3 S3 nD ⟨rs,hD,All2.of ?_ fun j r z er ez=>?_⟩
  ·unfold zYh
   rw [zlm,List.length_range,hys]
  ·obtain ⟨q,e1,_,e3,e4⟩:=hR j (.ref r) (by rw [zgm,er];rfl)
   cases e1
   have hj:=(List.getElem?_eq_some_iff.mp er).1
   unfold zYh at ez
   rw [zgm,List.getElem?_range (by lia)] at ez
   rw [←zsi ez]
   exact ⟨e4,e3⟩
inductive zUl (t:Adr) (a:V) (b:V) (H:Hp) (Q:VK):Prop
 | mk (p:Addr) (rows:List (List Nat)) (m:Nat) (H0:Hp) (_:a=.ref p) (_:b=.int m) (_:zUe H0 H p rows) (_:rows.length≤100) (_:m≤100) (_:(∀r∈rows,r.length=m)) (_:RZ t H Q (zn ((List.range m).map fun s=>sumOf (rows.map fun r=>r.getD s 0)))):zUl t a b H Q
theorem zVp (T:Txt K mg t):Own P w K mg base 1 "loads_of" ["rows", "slots"] (Sp2 (zUl t)):=by
 refine own2 T.d_loads_of zZn fun a b H Q h f cdv A outer s E hr=>?_
 obtain ⟨p,rows,m,H0,rfl,rfl,hr0,hl,hm,hrl,k0⟩:=h
 refine ⟨_,(zV (zQ (zZf (own:=[("slot", 2)]) rfl zZn.nd (wO (by rfl) T.b_range (zZ (pv 1) zY)) (yU rfl) (fun _ _ _ _ _=>(yZ (i:=2) zZn.nd)) (fun _ _ _ _ _=>y4) (fun _ _ _ _ _=>(yS (sumK K rfl) (by rfl) T.b_sum (by decide +kernel) (zZ (zZf (own:=[("row", 3)]) rfl zZn.nd (yV K (pv 0)) (yU rfl) (fun _ _ _ _ _=>(yZ (i:=3) zZn.nd)) (fun _ _ _ _ _=>y4) (fun _ _ _ _ _=>(yP (z4 K) (pv 3) (pv 2) (fun _ _=>rfl)))) zY)))))),?_⟩
 refine ⟨_,rfl,_,rfl,by lia,by lia,fun D nD=>zYz (Ts:=Ts t) (y6.rng _) nD (by rw [Int.toNat_natCast];lia) (fun s=>((sumOf (rows.map fun r=>r.getD s 0):Nat):Int)) (fun j x H' Q' hj S' it k'=>?_) fun H' S' hD=>?_⟩
 ·subst it
  rw [Int.toNat_natCast] at hj
  obtain ⟨qs,h1,h2⟩:=hr0.sm (t:=t) S'
  have ln:(qs.map V.ref).length=rows.length:=by rw [zlm,h2.len]
  refine ⟨rfl,_,rfl,p,rfl,⟨_,SqL.of h1⟩,fun D2 nD2=>zYz (Ts:=Ts t) (y6.seq (SqL.of h1)) nD2 (by rw [ln];lia) (fun i=>(((rows.getD i []).getD j 0:Nat):Int)) (fun i x H2 Q2 hi S2 it2 k2=>?_) fun H2 S2 hD2=>?_⟩
  ·obtain ⟨q,r,rfl,e1,e2,e3⟩:=zXs (H:=H') h2 it2
   have er:rows.getD i []=r:=by rw [List.getD_eq_getElem?_getD,e2];rfl
   rw [er] at k2
   exact ⟨rfl,_,rfl,_,rfl,zYP (e3.1.sm S2) (by rw [hrl r (List.mem_of_getElem? e2)];exact hj) (k2 H2 (Sm.refl _))⟩
  ·rw [ln,zWF rows [] fun r=>((r.getD j 0:Nat):Int)] at hD2
   refine sumI hD2 ?_
   have e:(rows.map fun r=>((r.getD j 0:Nat):Int)).sum=((sumOf (rows.map fun r=>r.getD j 0):Nat):Int):=by
    rw [←zVw]
    unfold zn
    rw [List.map_map]
    rfl
   rw [e]
   exact k' H2 S2
 ·refine k0 D H' S' nD ?_
  show H' D=_
  rw [hD,Int.toNat_natCast]
  unfold zn
  rw [List.map_map,List.map_map,List.map_map]
  rfl
end
open PySem PySem.Spec PyProof.Rows L2
open GarText (Bytes)
open GarPlug (Car Day)
open GarLoad
open Chg (canTake xY qZ uS zZC tk yT pick excL lowL x9 xW)
theorem z1m (l m:List Nat):sumOf (l++m)=sumOf l+sumOf m:=by
 induction l with
 | nil=>exact (Nat.zero_add _).symm
 | cons a l ih=>
  show a+sumOf (l++m)=a+sumOf l+sumOf m
  rw [ih]
  lia
theorem z1t (l m:List Nat):zn (l++m)=zn l++zn m:=List.map_append ..
theorem zTI (l:List Nat) {k:Nat} (h:k≤l.length):(List.range k).map (fun u=>l.getD u 0)=l.take k:=by
 refine List.ext_getElem (by simp;lia) fun i h1 h2=>?_
 have hi:i < k:=by simpa using h1
 rw [List.getElem_map,List.getElem_range,List.getElem_take,Chg.vX (by lia)]
theorem zWc {α:Type} [DecidableEq α]:∀{ks ns:List α},ks.Nodup→(∀k∈ks,k∈ns)→ks.length≤ns.length
 | [],_,_,_=>Nat.zero_le _
 | k::ks,ns,nd,h=>by
  have hk:=h k (List.mem_cons_self ..)
  rw [List.nodup_cons] at nd
  have:=zWc (ks:=ks) (ns:=ns.erase k) nd.2 fun x hx=>(List.mem_erase_of_ne fun e=>nd.1 (by rw [←e];exact hx)).mpr (h x (zmc _ hx))
  rw [List.length_erase_of_mem hk] at this
  have:=List.length_pos_of_mem hk
  rw [zlc]
  lia
theorem z3w {d:Day}{plan loads left:List Nat}{k c:Nat} (PA:x9 d.cars loads d.cars.length 0 left plan) (hl:loads.length=d.supply.length) (hk:k < d.supply.length) (hc:c < d.cars.length):
  [(rowAt plan d.supply.length c).getD k 0,sumOf ((rowAt plan d.supply.length c).drop (k+1))]=[at_ d.slots plan c k,(taskOf d).needs.getD c 0-sumOf ((List.range (k+1)).map fun (u:Nat)=>at_ d.slots plan c u)]:=by
 have lp:plan.length=d.supply.length * d.cars.length:=by
  rw [PA.len,hl]
  lia
 have rl:=zZw lp hc
 have f:=PA.full c hc
 rw [hl,←Chg.zRO] at f
 have e1:∀u,u < d.supply.length→(rowAt plan d.supply.length c).getD u 0=plan.getD (d.supply.length * c+u) 0:=fun u hu=>zYY lp hc hu
 have e2:(List.range d.supply.length).map (fun u=>plan.getD (d.supply.length * c+u) 0)=rowAt plan d.supply.length c:=by
  rw [←List.take_of_length_le (Nat.le_of_eq rl),←zTI _ (by lia)]
  refine List.map_congr_left fun u hu=>(e1 u (List.mem_range.mp hu)).symm
 have e3:(List.range (k+1)).map (fun (u:Nat)=>at_ d.slots plan c u)=(rowAt plan d.supply.length c).take (k+1):=by
  rw [←zTI _ (by lia)]
  refine List.map_congr_left fun u hu=>?_
  have:=List.mem_range.mp hu
  exact (e1 u (by lia)).symm
 rw [e2] at f
 have f2:sumOf (rowAt plan d.supply.length c)=(taskOf d).needs.getD c 0:=f
 rw [e3,←f2,e1 k hk]
 have sp:=z1m ((rowAt plan d.supply.length c).take (k+1)) ((rowAt plan d.supply.length c).drop (k+1))
 rw [List.take_append_drop] at sp
 have e4:sumOf ((rowAt plan d.supply.length c).drop (k+1))=sumOf (rowAt plan d.supply.length c)-sumOf ((rowAt plan d.supply.length c).take (k+1)):=by lia
 rw [e4]
 rfl
section
variable {P:Program}{w:World}{K:Fg}{mg:Str→Option Value}{base:Heap}{t:Adr}
inductive zZY (t:Adr) (a:V) (b:V) (H:Hp) (Q:VK):Prop
 | mk (p:Addr) (d:Day) (k:Nat) (_:a=.ref p) (_:b=.int k) (_:DayR t H p d) (_:DayB d) (_:TabsOk (Ts t) H) (_:feasible (tk d.cars d.supply)=true) (_:k < d.supply.length) (_:RZ t H Q (zn (WqgarjSpec.nowAt d k))):zZY t a b H Q
theorem zX3 (T:TxtB K mg base t):Own P w K mg base 7 "taken_and_left" ["day", "slot"] (Sp2 (zZY t)):=by
 refine own2 T.d_taken_and_left jO fun a b H Q h f cdv A outer s E hr=>?_
 obtain ⟨p,d,k,rfl,rfl,hd,B,tab,F,hk,k0⟩:=h
 refine ⟨_,(zW (yY (i:=2) jO.nd (yX zY))
   (zW (kQ PassesOwn.never rfl (yV K (zS (zUM T.toTxt) hr.o (zZ (zS (zX8 T.toTxt) hr.o (zZ (pv 0) (zZ (zS (kZ T) hr.o (zZ (pv 0) zY)) zY))) (zZ (pv 0) zY)))) (yZ (i:=3) jO.nd)
   (zV (jZ (zXp PySem.F.plainAttrs_list PySem.F.slot_list_extend PySem.F.type_list_extend kT (pv 2) (zZ (yX (zZ (yP (z4 K) (pv 3) (pv 1) (fun _ _=>rfl)) (zZ (yS (sumK K rfl) (by rfl) T.b_sum (by decide +kernel) (zZ (y9 (xZ K) (pv 3) (xX (yQ vR (pv 1) z3)) v8) zY)) zY))) zY)))))
   (zV (zQ (pv 2))))),?_⟩
 have b2:=B.hi
 have b4:=B.pr
 have b5:=B.cars
 have ll:(loadsOf (tk d.cars d.supply) d.price).length=d.supply.length:=Chg.zWf
 obtain ⟨F2,Su⟩:=Chg.z5h (cars:=d.cars) b4 F
 refine ⟨sz rfl,fun Tl hTl=>?_⟩
 have ST:Sm (Ts t) H (upd H Tl (.lst [])):=Sm.new hTl
 refine ⟨_,rfl,_,rfl,_,rfl,p,d,rfl,hd.sm ST,B,ST.ok tab,fun L H1 S1 nL hL=>?_⟩
 have S01:=ST.trans S1
 refine ⟨_,_,rfl,p,L,d,_,rfl,rfl,hd.sm S01,B,hL,ll,F2,Su,fun left plan PA M H2 S2 nM hM=>?_⟩
 have lp:plan.length=d.supply.length * d.cars.length:=by
  rw [PA.len,ll]
  lia
 have S02:=S01.trans S2
 refine ⟨_,rfl,_,_,rfl,M,p,plan,d,rfl,rfl,hM,hd.sm S02,B,lp,fun R H3 S3 nR hR=>?_⟩
 obtain ⟨qs,g1,g2⟩:=hR
 have S03:=S02.trans S3
 have nR0:H R=none:=S02.free nR
 have hT2:H2 Tl=some (.lst []):=(S1.trans S2).keep _ _ zX yR
 have TR:Tl≠R:=zT hT2 nR
 have sR:SqL K (upd H R (.lst (qs.map V.ref))) R (qs.map V.ref):=SqL.of zX
 have nTb:upd H R (.lst (qs.map V.ref)) Tl=none:=by
  rw [zP TR]
  exact hTl
 have Sb:Sm (Ts t) H (upd H R (.lst (qs.map V.ref))):=Sm.new nR0
 have lr:(zYh plan d.supply.length d.cars.length).length=d.cars.length:=by
  unfold zYh
  rw [zlm,List.length_range]
 have rat:∀i,i < d.cars.length→(zYh plan d.supply.length d.cars.length)[i]?=some (rowAt plan d.supply.length i):=fun i hi=>by
  unfold zYh
  rw [zgm,List.getElem?_range hi]
  rfl
 refine ⟨R,rfl,⟨_,SqL.of g1⟩,k7 (Ts:=Ts t) (y6.seq sR) (fun i σ H'=>Sm (Ts t) (upd H R (.lst (qs.map V.ref))) H'∧∃oc,σ=[some (.ref p),some (.int k),some (.ref Tl),oc]∧IL H' Tl (zn ((List.range i).flatMap fun c=>[(rowAt plan d.supply.length c).getD k 0,sumOf ((rowAt plan d.supply.length c).drop (k+1))]))∧All2 (fun q r=>IL H' q (zn r)∧q≠Tl) qs (zYh plan d.supply.length d.cars.length)) (fun _ _ _ h=>h.1) ⟨S03.put nR0 g1,none,rfl,?_,?_⟩ ?_ ?_⟩
 ·exact S3.keep _ _ hT2 yR
 ·exact g2.imp fun q r h=>⟨h.1,(zT hT2 h.2).symm⟩
 ·rintro i x σ H4 H5 hi ⟨S4,oc,rfl,hT,hA⟩ S5 it
  obtain ⟨q,r,rfl,e1,e2,e3,e4⟩:=zXs (H:=H) hA it
  have hi:i < d.cars.length:=by
   have:=(List.getElem?_eq_some_iff.mp e2).1
   lia
  rw [rat i hi] at e2
  obtain rfl:=zsi e2
  have rl:=zZw lp hi
  have hT5:=hT.sm (t:=t) S5
  have hq5:=e3.sm (t:=t) S5
  have len1:∀n,((List.range n).flatMap fun c=>[(rowAt plan d.supply.length c).getD k 0,sumOf ((rowAt plan d.supply.length c).drop (k+1))]).length=2 * n:=fun n=>by
   induction n with
   | zero=>rfl
   | succ n ih=>
    rw [List.range_succ,List.flatMap_append,zla,ih]
    rfl
  refine ⟨_,rfl,.inl ⟨rfl,_,SqL.of hT5⟩,_,rfl,_,rfl,zYP hq5 (by lia) ⟨_,rfl,_,rfl,_,_,rfl,rfl,_,rfl,q,_,rfl,SqL.of hq5,fun N hN=>?_⟩⟩
  have c1:cutV ((zn (rowAt plan d.supply.length i)).map V.int) (some ((k:Int)+1)) none=(zn ((rowAt plan d.supply.length i).drop (k+1))).map V.int:=by
   unfold zn
   rw [List.map_drop,List.map_drop]
   exact uZ _ (k+1)
  rw [c1]
  have SN:Sm (Ts t) H5 (upd H5 N (.lst ((zn ((rowAt plan d.supply.length i).drop (k+1))).map V.int))):=Sm.new hN
  have hN1:IL (upd H5 N (.lst ((zn ((rowAt plan d.supply.length i).drop (k+1))).map V.int))) N (zn ((rowAt plan d.supply.length i).drop (k+1))):=zX
  refine sumI hN1 ⟨sz rfl,fun C hC=>?_⟩
  rw [zVw]
  have S5C:=SN.add (o:=.lst [V.int ((rowAt plan d.supply.length i).getD k 0:Nat),V.int (sumOf ((rowAt plan d.supply.length i).drop (k+1)):Nat)]) hC
  have hC1:IL (upd (upd H5 N (.lst ((zn ((rowAt plan d.supply.length i).drop (k+1))).map V.int))) C (.lst [V.int ((rowAt plan d.supply.length i).getD k 0:Nat),V.int (sumOf ((rowAt plan d.supply.length i).drop (k+1)):Nat)])) C (zn [(rowAt plan d.supply.length i).getD k 0,sumOf ((rowAt plan d.supply.length i).drop (k+1))]):=zX
  have hT6:=hT5.sm (t:=t) S5C
  refine extI hT6 hC1 (by rw [z6,z6,len1];simp only [zlc,List.length_nil];lia) ⟨((S4.trans S5).trans S5C).acc nTb hT6,_,rfl,?_,?_⟩
  ·unfold IL
   rw [zX,List.range_succ,List.flatMap_append,z1t]
   rfl
  ·refine hA.imp fun q r h=>⟨?_,h.2⟩
   unfold IL
   rw [zP h.2]
   exact (h.1.sm (t:=t) S5).sm (t:=t) S5C
 ·rintro σ H4 ⟨S4,oc,rfl,hT,hA⟩
  refine ⟨_,rfl,k0 Tl H4 (Sb.trans S4) hTl ?_⟩
  have e:(List.range (qs.map V.ref).length).flatMap (fun c=>[(rowAt plan d.supply.length c).getD k 0,sumOf ((rowAt plan d.supply.length c).drop (k+1))])=WqgarjSpec.nowAt d k:=by
   rw [zlm,g2.len,lr]
   have ep:planOf d=plan:=by
    rw [Chg.z4U]
    exact PA.all
   show _=(List.range d.cars.length).flatMap fun (c:Nat)=>[at_ d.slots (planOf d) c k,(taskOf d).needs.getD c 0-sumOf ((List.range (k+1)).map fun (u:Nat)=>at_ d.slots (planOf d) c u)]
   rw [ep,List.flatMap_def,List.flatMap_def]
   congr 1
   exact List.map_congr_left fun c hc=>z3w PA ll hk (List.mem_range.mp hc)
  rw [e] at hT
  exact hT
inductive zZA (t:Adr) (a:V) (H:Hp) (Q:VK):Prop
 | mk (p:Addr) (pri:List Nat) (_:a=.ref p) (_:IL H p (zn pri)) (_:pri.length≤60) (_:RZ t H Q (zn ((levels pri).drop 1))):zZA t a H Q
theorem uU (T:Txt K mg t):Own P w K mg base 1 "prices_but_least" ["prices"] (Sp1 (zZA t)):=by
 refine own1 T.d_prices_but_least zXM fun a H Q h f cdv A outer s E hr=>?_
 obtain ⟨p,pri,rfl,hp,hl,k0⟩:=h
 refine ⟨_,(zV (zQ (y9 (xZ K) (yS (zU4 rfl) (by rfl) T.b_sorted zYU (zZ (jS (zS3 rfl) (by rfl) T.b_set (by decide +kernel) (zZ (pv 0) zY)) zY)) (xX z3) v8))),?_⟩
 refine ⟨_,rfl,p,zn pri,rfl,SqL.of hp,by rw [z6];lia,fun D ks O hD=>?_⟩
 have kl:=zWc O.1 fun k hk=>(O.2 k).mp hk
 rw [z6] at kl
 refine ⟨D,ks,rfl,zX,by lia,fun ns q pm pw hq=>⟨_,rfl,q,_,rfl,SqL.of zX,fun r hr=>?_⟩⟩
 have e:ns=zn (levels pri):=by
  have mem:∀x,x∈ns↔x∈zn pri:=fun x=>by rw [pm.mem_iff,O.2]
  have nd:ns.Nodup:=pm.nodup_iff.mpr O.1
  have back:(zn (ns.map Int.toNat))=ns:=by
   unfold zn
   rw [List.map_map]
   conv=>rhs;rw [←List.map_id ns]
   refine List.map_congr_left fun x hx=>?_
   obtain ⟨n,_,rfl⟩:=List.mem_map.mp ((mem x).mp hx)
   rfl
  rw [←back]
  congr 1
  refine Chg.z3u (fun x=>?_) ?_
  ·constructor
   ·intro hx
    obtain ⟨y,hy,rfl⟩:=List.mem_map.mp hx
    obtain ⟨n,hn,rfl⟩:=List.mem_map.mp ((mem y).mp hy)
    exact hn
   ·intro hx
    exact List.mem_map.mpr ⟨(x:Int),(mem _).mpr (List.mem_map.mpr ⟨x,hx,rfl⟩),rfl⟩
  ·rw [List.pairwise_map]
   refine List.Pairwise.imp_of_mem (fun {x y} hx hy h=>?_) (pw.and nd)
   obtain ⟨n,_,rfl⟩:=List.mem_map.mp ((mem x).mp hx)
   obtain ⟨m,_,rfl⟩:=List.mem_map.mp ((mem y).mp hy)
   have h1:=h.1
   have h2:=h.2
   show (n:Int).toNat < (m:Int).toNat
   lia
 subst e
 have c1:cutV ((zn (levels pri)).map V.int) (some 1) none=(zn ((levels pri).drop 1)).map V.int:=by
  unfold zn
  rw [List.map_drop,List.map_drop]
  exact uZ _ 1
 rw [c1]
 exact k0 r _ (((Sm.new hD).add hq).add hr) (((Sm.new (Ts:=Ts t) hD).add hq).free hr) zX
inductive zZu (t:Adr) (a:V) (b:V) (H:Hp) (Q:VK):Prop
 | mk (p:Addr) (d:Day) (q:Nat) (_:a=.ref p) (_:b=.int q) (_:DayR t H p d) (_:DayB d) (_:RZ t H Q (zn (xW d.supply d.price q))):zZu t a b H Q
theorem qW (T:Txt K mg t):Own P w K mg base 1 "cheaper_supplies" ["day", "price"] (Sp2 (zZu t)):=by
 refine own2 T.d_cheaper_supplies wU fun a b H Q h f cdv A outer s E hr=>?_
 obtain ⟨p,d,q,rfl,rfl,hd,B,k0⟩:=h
 refine ⟨_,(zV (zQ (zZf (own:=[("supply", 2),("cost", 3)]) rfl wU.nd (zRd K (by rfl) T.b_zip (zZ (zR K (pv 0) rfl) (zZ (zR K (pv 0) rfl) zY))) (yU rfl) (fun _ _ _ _ _=>(zRS K (n:=2) rfl (zXh (yZ (i:=2) wU.nd) (zXh (yZ (i:=3) wU.nd) zRE)))) (fun _ _ _ _ _=>y4) (fun _ _ _ _ _=>(z2x (z8 zRp (pv 3) (pv 1) (z9 _)) (pv 2) z3))))),?_⟩
 obtain ⟨dx,nm,sp,pr,cs,as,h1,h2,h3,h4,h5,h6⟩:=xQ hd
 have b2:=B.hi
 have b4:=B.pr
 have ln:min ((zn d.supply).map V.int).length ((zn d.price).map V.int).length=d.supply.length:=by
  rw [zlm,zlm,z6,z6]
  lia
 refine ⟨_,rfl,ds T h1 ⟨_,rfl,dp T h1 ⟨sp,pr,_,_,rfl,SqL.of h3,SqL.of h4,fun D nD=>zYz (Ts:=Ts t) (y6.zip (SqL.of h3) (SqL.of h4)) nD (by rw [ln];lia) (fun j=>((if d.price.getD j 0 < q then d.supply.getD j 0 else 0:Nat):Int)) (fun j v H' Q' hj S' it k'=>?_) fun H' S' hD=>?_⟩⟩⟩
 ·obtain ⟨T',x,z,rfl,hT,e1,e2⟩:=it
  obtain ⟨hj1,rfl⟩:=int_at e1
  obtain ⟨hj2,rfl⟩:=int_at e2
  refine ⟨T',_,rfl,.inl (.inl hT),rfl,_,_,rfl,_,_,rfl,rfl,rfl,_,rfl,_,rfl,_,_,rfl,rfl,_,rfl,itP (fun c=>?_) fun c=>?_⟩
  ·rw [if_pos (by lia)] at k'
   exact ⟨_,rfl,k' H' (Sm.refl _)⟩
  ·rw [if_neg (by lia)] at k'
   exact k' H' (Sm.refl _)
 ·refine k0 D H' S' nD ?_
  show H' D=_
  rw [hD,ln]
  congr 3
  refine List.ext_getElem (by rw [z6,Chg.zSN b4];simp) fun i h1 h2=>?_
  have hi:i < d.supply.length:=by simpa using h1
  have g:=Chg.z1L (q:=q) b4 hi
  rw [Chg.vX (by rw [Chg.zSN b4];exact hi)] at g
  have ez:(zn (xW d.supply d.price q))[i]=(((xW d.supply d.price q)[i]'(by rw [Chg.zSN b4];exact hi):Nat):Int):=List.getElem_map ..
  rw [ez,g,List.getElem_map,List.getElem_range]
def xU (d:Day) (q:Nat):List Nat:=q::excess (tk d.cars (xW d.supply d.price q)) (worst (tk d.cars (xW d.supply d.price q)))::WqgarjSpec.counted d.cars.length (worst (tk d.cars (xW d.supply d.price q)))
theorem zYx (n a:Nat):(WqgarjSpec.counted n a).length≤n+1:=by
 unfold WqgarjSpec.counted WqgarjSpec.carsOf
 rw [zlc]
 have:=List.length_filter_le (fun c=>a.testBit c) (List.range n)
 rw [List.length_range] at this
 lia
theorem zQ8 (d:Day) (h:d.price.length=d.supply.length):(((levels d.price).drop 1).zip (proofOf d)).flatMap (fun (x:Nat×Nat)=>x.1::beyond (taskOf d) (cheaper d.price x.1) x.2::WqgarjSpec.counted d.cars.length x.2)=((levels d.price).drop 1).flatMap (xU d):=by
 unfold proofOf
 generalize (levels d.price).drop 1=l
 induction l with
 | nil=>rfl
 | cons q l ih=>
  rw [List.map_cons,List.zip_cons_cons,List.flatMap_cons,List.flatMap_cons,ih]
  congr 1
  show q::beyond (taskOf d) (cheaper d.price q) (forcer (taskOf d) (cheaper d.price q))::WqgarjSpec.counted d.cars.length (forcer (taskOf d) (cheaper d.price q))=xU d q
  unfold xU
  rw [Chg.z3g h,Chg.zT4 h]
  rfl
inductive zX5 (t:Adr) (a:V) (H:Hp) (Q:VK):Prop
 | mk (p:Addr) (d:Day) (_:a=.ref p) (_:DayR t H p d) (_:DayB d) (_:RZ t H Q (zn (((levels d.price).drop 1).length::((levels d.price).drop 1).flatMap (xU d)))):zX5 t a H Q
theorem zUZ (T:Txt K mg t):Own P w K mg base 8 "told_proof" ["day"] (Sp1 (zX5 t)):=by
 refine own1 T.d_told_proof jX fun a H Q h f cdv A outer s E hr=>?_
 obtain ⟨p,d,rfl,hd,B,k0⟩:=h
 refine ⟨_,(zW (yY (i:=1) jX.nd (zS (uU T) hr.o (zZ (zR K (pv 0) rfl) zY)))
   (zW (yY (i:=2) jX.nd (yX (zZ (y8 K T.b_len (zZ (pv 1) zY)) zY)))
   (zW (kQ PassesOwn.never rfl (yV K (pv 1)) (yZ (i:=3) jX.nd)
   (zW (yY (i:=4) jX.nd (zS (qW T) hr.o (zZ (pv 0) (zZ (pv 3) zY))))
   (zW (jZ (zXp PySem.F.plainAttrs_list PySem.F.slot_list_extend PySem.F.type_list_extend kT (pv 2) (zZ (yX (zZ (pv 3) (zZ (zS (w4 T) hr.o (zZ (zR K (pv 0) rfl) (zZ (pv 4) zY))) zY))) zY)))
   (zV (jZ (zXp PySem.F.plainAttrs_list PySem.F.slot_list_extend PySem.F.type_list_extend kT (pv 2) (zZ (zS (u6 T) hr.o (zZ (zS (zWb T) hr.o (zZ (zR K (pv 0) rfl) (zZ (pv 4) zY))) (zZ (y8 K T.b_len (zZ (zR K (pv 0) rfl) zY)) zY))) zY)))))))
   (zV (zQ (pv 2)))))),?_⟩
 obtain ⟨dx,nm,sp,pr,cs,as,h1,h2,h3,h4,h5,h6⟩:=xQ hd
 have b2:=B.hi
 have b4:=B.pr
 have b5:=B.cars
 have lv:=Chg.zTG d.price
 refine ⟨_,rfl,dp T h1 ⟨_,rfl,pr,d.price,rfl,h4,by lia,fun Pb H1 S1 nP hP=>?_⟩⟩
 refine ⟨_,rfl,lenI hP ⟨sz rfl,fun Tl hTl=>?_⟩⟩
 have ST:Sm (Ts t) H1 (upd H1 Tl (.lst [V.int (zn ((levels d.price).drop 1)).length])):=Sm.new hTl
 refine ⟨_,rfl,Pb,rfl,⟨_,SqL.of (hP.sm ST)⟩,k7 (Ts:=Ts t) (H1:=H1) (y6.seq (SqL.of hP)) (fun i σ H'=>Sm (Ts t) H1 H'∧∃o3 o4,σ=[some (.ref p),some (.ref Pb),some (.ref Tl),o3,o4]∧IL H' Tl (zn (((levels d.price).drop 1).length::(((levels d.price).drop 1).take i).flatMap (xU d)))∧((((levels d.price).drop 1).take i).flatMap (xU d)).length≤10 * i) (fun _ _ _ h=>h.1) ⟨ST,none,none,rfl,?_,?_⟩ ?_ ?_⟩
 ·unfold IL
  rw [zX,z6]
  rfl
 ·exact Nat.le_refl _
 ·rintro i x σ H2 H3 hi ⟨S2,o3,o4,rfl,hT,lT⟩ S3 it
  obtain ⟨hi,rfl⟩:=int_at it
  have hil:i≤12:=by
   rw [List.length_drop] at hi
   lia
  have S13:=S2.trans S3
  have S03:=S1.trans S13
  have hT3:=hT.sm (t:=t) S3
  generalize hq:((levels d.price).drop 1).getD i 0=q
  refine ⟨_,rfl,_,rfl,_,_,rfl,p,d,q,rfl,rfl,hd.sm S03,B,fun C H4 S4 nC hC=>?_⟩
  have S04:=S03.trans S4
  have hT4:=hT3.sm (t:=t) S4
  have CL:zZB t H4 cs d.cars:=⟨as,h5.sm S04,wZ h6 S04⟩
  have lc:(xW d.supply d.price q).length≤100:=by
   rw [Chg.zSN b4]
   lia
  refine ⟨_,rfl,.inl ⟨rfl,_,SqL.of hT4⟩,_,rfl,_,rfl,dc T (S04.keep _ _ h1 z0) ⟨_,rfl,_,_,rfl,d.cars,_,⟨cs,C,rfl,rfl,CL,b5,hC,lc⟩,fun H5 S5=>⟨sz rfl,fun N hN=>?_⟩⟩⟩
  generalize hx:excess (tk d.cars (xW d.supply d.price q)) (worst (tk d.cars (xW d.supply d.price q)))=x
  have SN:Sm (Ts t) H5 (upd H5 N (.lst [V.int (q:Nat),V.int (x:Nat)])):=Sm.new hN
  have hN1:IL (upd H5 N (.lst [V.int (q:Nat),V.int (x:Nat)])) N (zn [q,x]):=zX
  have S5N:=S5.trans SN
  have hT5:=hT4.sm (t:=t) S5N
  have lT2:(((levels d.price).drop 1).length::(((levels d.price).drop 1).take i).flatMap (xU d)).length≤1+10 * i:=by
   rw [zlc]
   lia
  refine extI hT5 hN1 (by rw [z6,z6];simp only [zlc,List.length_nil] at *;lia) ?_
  have S16:Sm (Ts t) H1 (upd (upd H5 N (.lst [V.int (q:Nat),V.int (x:Nat)])) Tl (.lst ((zn (((levels d.price).drop 1).length::(((levels d.price).drop 1).take i).flatMap (xU d))++zn [q,x]).map V.int))):=((S13.trans S4).trans S5N).acc hTl hT5
  have hT6:IL (upd (upd H5 N (.lst [V.int (q:Nat),V.int (x:Nat)])) Tl (.lst ((zn (((levels d.price).drop 1).length::(((levels d.price).drop 1).take i).flatMap (xU d))++zn [q,x]).map V.int))) Tl (zn (((levels d.price).drop 1).length::(((levels d.price).drop 1).take i).flatMap (xU d))++zn [q,x]):=zX
  have hC6:IL (upd (upd H5 N (.lst [V.int (q:Nat),V.int (x:Nat)])) Tl (.lst ((zn (((levels d.price).drop 1).length::(((levels d.price).drop 1).take i).flatMap (xU d))++zn [q,x]).map V.int))) C (zn (xW d.supply d.price q)):=by
   unfold IL
   rw [zP (zT hT3 nC).symm]
   exact hC.sm (t:=t) S5N
  generalize upd (upd H5 N (.lst [V.int (q:Nat),V.int (x:Nat)])) Tl (.lst ((zn (((levels d.price).drop 1).length::(((levels d.price).drop 1).take i).flatMap (xU d))++zn [q,x]).map V.int))=H6 at *
  have S06:=S1.trans S16
  have CL6:zZB t H6 cs d.cars:=⟨as,h5.sm S06,wZ h6 S06⟩
  refine ⟨_,rfl,.inl ⟨rfl,_,SqL.of hT6⟩,_,rfl,dc T (S06.keep _ _ h1 z0) ⟨_,rfl,_,_,rfl,d.cars,_,⟨cs,C,rfl,rfl,CL6,b5,hC6,lc⟩,fun H7 S7=>?_⟩⟩
  have S07:=S06.trans S7
  refine ⟨_,rfl,dc T (S07.keep _ _ h1 z0) (lenR (h5.sm S07) ⟨_,_,rfl,worst (tk d.cars (xW d.supply d.price q)),d.cars.length,rfl,by rw [h6.len],by lia,fun W H8 S8 nW hW=>?_⟩)⟩
  have S68:=S7.trans S8
  have hT8:=hT6.sm (t:=t) S68
  have lcm:=zYx d.cars.length (worst (tk d.cars (xW d.supply d.price q)))
  have row:xU d q=[q,x]++WqgarjSpec.counted d.cars.length (worst (tk d.cars (xW d.supply d.price q))):=by
   unfold xU
   rw [hx]
   rfl
  have etk:((levels d.price).drop 1).take (i+1)=((levels d.price).drop 1).take i++[q]:=by
   rw [take_snoc 0 hi,hq]
  have e10:(((levels d.price).drop 1).take (i+1)).flatMap (xU d)=(((levels d.price).drop 1).take i).flatMap (xU d)++([q,x]++WqgarjSpec.counted d.cars.length (worst (tk d.cars (xW d.supply d.price q)))):=by
   rw [etk,List.flatMap_append,List.flatMap_cons,List.flatMap_nil,List.append_nil,row]
  refine extI hT8 hW (by rw [zla,z6,z6,z6];simp only [zlc,List.length_nil] at *;lia) ⟨(S16.trans S68).acc hTl hT8,_,_,rfl,?_,?_⟩
  ·unfold IL
   rw [zX,e10]
   have e11:zn (((levels d.price).drop 1).length::((((levels d.price).drop 1).take i).flatMap (xU d)++([q,x]++WqgarjSpec.counted d.cars.length (worst (tk d.cars (xW d.supply d.price q))))))=zn (((levels d.price).drop 1).length::(((levels d.price).drop 1).take i).flatMap (xU d))++zn [q,x]++zn (WqgarjSpec.counted d.cars.length (worst (tk d.cars (xW d.supply d.price q)))):=by
    rw [←z1t,←z1t]
    congr 1
    rw [zaa]
    rfl
   rw [e11]
  ·rw [e10,zla,zla]
   simp only [zlc,List.length_nil]
   lia
 ·rintro σ H2 ⟨S2,o3,o4,rfl,hT,lT⟩
  rw [zlm,z6,List.take_length] at hT
  exact ⟨_,rfl,k0 Tl H2 (S1.trans S2) (S1.free hTl) hT⟩
end
open PySem PySem.Spec PyProof.Rows L2
open GarText (Bytes)
open GarPlug (Car Day)
open GarLoad
open Chg (canTake xY qZ uS zZC tk yT pick excL lowL x9 xW)
section
variable {P:Program}{w:World}{K:Fg}{mg:Str→Option Value}{base:Heap}{t:Adr}
inductive zXu (t:Adr) (a:V) (b:V) (H:Hp) (Q:VK):Prop
 | mk (p q:Addr) (d:Day) (ps:List Addr) (l:List Nat) (_:a=.ref p) (_:b=.ref q) (_:DayR t H p d) (_:DayB d) (_:RefL H q ps) (_:All2 (fun c n=>zZB t H c (pick d.cars n)) ps l) (_:l.length=(levels d.price).length-1) (_:RI t H Q (GarLoad.bound d l:Nat)):zXu t a b H Q
theorem zV5 (T:Txt K mg t):Own P w K mg base 5 "proven_cost" ["day", "chosen_sets"] (Sp2 (zXu t)):=by
 refine own2 T.d_proven_cost x4 fun a b H Q h f cdv A outer s E hr=>?_
 obtain ⟨p,q,d,ps,l,rfl,rfl,hd,B,hq,hc,ll,k0⟩:=h
 refine ⟨_,(zW (yY (i:=2) x4.nd (yS (minK K rfl) (by rfl) T.b_min (by decide +kernel) (zZ (zR K (pv 0) rfl) zY)))
   (zW (yY (i:=3) x4.nd (yQ zUz (pv 2) (zS (zZt T) hr.o (zZ (zR K (pv 0) rfl) zY))))
   (zW (kQ PassesOwn.never rfl (zRd K (by rfl) T.b_zip (zZ (zS (uU T) hr.o (zZ (zR K (pv 0) rfl) zY)) (zZ (pv 1) zY))) (zRS K (n:=2) rfl (zXh (yZ (i:=4) x4.nd) (zXh (yZ (i:=5) x4.nd) zRE)))
   (zW (yY (i:=3) x4.nd (yQ vR (pv 3) (yQ zUz (yQ zZL (pv 4) (pv 2)) (zS (zVu T) hr.o (zZ (pv 5) (zZ (zS (qW T) hr.o (zZ (pv 0) (zZ (pv 4) zY))) zY))))))
   (zV (yY (i:=2) x4.nd (pv 4)))))
   (zV (zQ (pv 3)))))),?_⟩
 obtain ⟨dx,nm,sp,pr,cs,as,h1,h2,h3,h4,h5,h6⟩:=xQ hd
 have b1:=B.lo
 have b2:=B.hi
 have b4:=B.pr
 have b5:=B.cars
 have lv:=Chg.zTG d.price
 have pne:d.price≠[]:=fun z=>by
  rw [z] at b4
  simp at b4
  lia
 obtain ⟨q0,r,el⟩:∃q0 r,levels d.price=q0::r:=by
  cases e:levels d.price with
  | nil=>exact absurd e (Chg.z4y pne)
  | cons q0 r=>exact ⟨q0,r,rfl⟩
 have srt:=Chg.zZ7 d.price
 rw [el,List.pairwise_cons] at srt
 have memB:∀x∈levels d.price,x≤999:=fun x hx=>B.pri x ((Chg.zZX _ _).mp hx)
 rw [el] at memB ll lv
 have ll:l.length=r.length:=by
  rw [ll]
  simp
 have lr:r.length≤12:=by
  rw [zlc] at lv
  lia
 refine ⟨_,rfl,dp T h1 (minI h4 (by rw [z6];lia) fun m hm hle=>?_)⟩
 have em:m=(q0:Int):=by
  obtain ⟨n,hn,rfl⟩:=List.mem_map.mp hm
  have:=Chg.z3P el hn fun y hy=>Int.ofNat_le.mp (hle _ (List.mem_map.mpr ⟨y,hy,rfl⟩))
  rw [this]
 subst em
 have q0B:=memB q0 (List.mem_cons_self ..)
 have small:∀z:Int,0≤z→z≤1000→-(2 ^ 64) < z∧z < 2 ^ 64:=fun z h1 h2=>⟨Int.lt_of_lt_of_le (by decide) h1,Int.lt_of_le_of_lt h2 (by decide)⟩
 refine ⟨_,rfl,_,rfl,dc T h1 ⟨_,rfl,cs,d.cars,rfl,⟨as,h5,h6⟩,by lia,fun H0 S0=>⟨_,_,rfl,rfl,.inl (small _ (by lia) (by lia)),?_⟩⟩⟩
 refine ⟨_,rfl,dp T (S0.keep _ _ h1 z0) ⟨_,rfl,pr,d.price,rfl,h4.sm S0,by lia,fun Pb H1 S1 nP hP=>?_⟩⟩
 rw [el] at hP
 have hP:IL H1 Pb (zn r):=hP
 have S01:=S0.trans S1
 have hq1:=hq.sm (t:=t) S01
 have ln:min ((zn r).map V.int).length (ps.map V.ref).length=r.length:=by
  rw [zlm,zlm,z6,hc.len]
  lia
 have eb:bound d l=q0 * sumOf (taskOf d).needs+provedBy (taskOf d) d.price (r.zip l) q0:=by
  unfold GarLoad.bound
  rw [el]
 refine ⟨_,rfl,Pb,q,_,_,rfl,SqL.of hP,SqL.of hq1,k7 (Ts:=Ts t) (H1:=H1) (y6.zip (SqL.of hP) (SqL.of hq1)) (fun i σ H'=>Sm (Ts t) H1 H'∧∃bf ct o4 o5,σ=[some (.ref p),some (.ref q),some (.int (bf:Nat)),some (.int (ct:Nat)),o4,o5]∧(∀x∈r.drop i,bf≤x)∧ct+provedBy (taskOf d) d.price ((r.zip l).drop i) bf=bound d l) (fun _ _ _ h=>h.1) ⟨Sm.refl _,q0,q0 * xY d.cars,none,none,?_,?_,?_⟩ ?_ ?_⟩
 ·have e:((q0:Int) * ((xY d.cars:Nat):Int))=((q0 * xY d.cars:Nat):Int):=(Int.natCast_mul ..).symm
  rw [←e]
  rfl
 ·intro x hx
  rw [List.drop_zero] at hx
  exact Nat.le_of_lt (srt.1 x hx)
 ·rw [List.drop_zero,eb]
  rfl
 ·rintro i x σ H2 H3 hi ⟨S2,bf,ct,o4,o5,rfl,hb,hct⟩ S3 it
  rw [ln] at hi
  obtain ⟨T',x1,y1,rfl,hT,e1,e2⟩:=it
  obtain ⟨_,rfl⟩:=int_at e1
  obtain ⟨c,n,rfl,e3,e4,e5⟩:=zXs (H:=H1) hc e2
  have S03:=S01.trans (S2.trans S3)
  have hc3:=e5.sm (t:=t) S03
  have er:r.getD i 0=r[i]:=Chg.vX hi
  have hdrop:r.drop i=r.getD i 0::r.drop (i+1):=by
   rw [er]
   exact List.drop_eq_getElem_cons hi
  have zdrop:(r.zip l).drop i=(r.getD i 0,n)::(r.zip l).drop (i+1):=by
   have hz:i < (r.zip l).length:=by
    rw [List.length_zip]
    lia
   rw [List.drop_eq_getElem_cons hz,List.getElem_zip,er]
   congr 2
   have:=List.getElem?_eq_some_iff.mp e4
   exact this.2
  have rB:r.getD i 0≤999:=memB _ (by rw [er];exact zmc _ (List.getElem_mem hi))
  have ble:bf≤r.getD i 0:=hb _ (by rw [hdrop];exact List.mem_cons_self ..)
  generalize hpr:r.getD i 0=x at *
  refine ⟨T',_,rfl,.inl (.inl hT),rfl,_,_,rfl,_,_,rfl,rfl,?_⟩
  have lc:(xW d.supply d.price x).length≤100:=by
   rw [Chg.zSN b4]
   lia
  refine ⟨_,rfl,_,rfl,_,rfl,_,_,rfl,rfl,_,rfl,_,rfl,_,rfl,_,_,rfl,p,d,x,rfl,rfl,hd.sm S03,B,fun C H4 S4 nC hC=>?_⟩
  refine ⟨_,_,rfl,c,C,pick d.cars n,_,rfl,rfl,hc3.sm S4,Nat.le_trans (zYJ _ _) (by lia),hC,lc,fun H5 S5=>⟨_,_,rfl,rfl,.inl (small _ (by lia) (by lia)),_,_,rfl,rfl,?_⟩⟩
  have ee:xY (pick d.cars n)-uS (pick d.cars n) (xW d.supply d.price x)=beyond (taskOf d) (cheaper d.price x) n:=by
   rw [(Chg.zWo d.cars n).excess,Chg.zT4 b4]
   rfl
  rw [ee]
  refine ⟨_,rfl,((S2.trans S3).trans S4).trans S5,x,ct+(x-bf) * beyond (taskOf d) (cheaper d.price x) n,some (.int x),some (.ref c),?_,?_,?_⟩
  ·have e:(ct:Int)+((x:Int)-(bf:Int)) * ((beyond (taskOf d) (cheaper d.price x) n:Nat):Int)=((ct+(x-bf) * beyond (taskOf d) (cheaper d.price x) n:Nat):Int):=by
    rw [Int.natCast_add,Int.natCast_mul,Int.ofNat_sub ble]
   rw [←e]
   rfl
  ·intro y hy
   have srt2:=srt.2.drop (i:=i)
   rw [hdrop,List.pairwise_cons] at srt2
   exact Nat.le_of_lt (srt2.1 y hy)
  ·rw [←hct,zdrop]
   show _=ct+((x-bf) * beyond (taskOf d) (cheaper d.price x) n+provedBy (taskOf d) d.price ((r.zip l).drop (i+1)) x)
   lia
 ·rintro σ H2 ⟨S2,bf,ct,o4,o5,rfl,hb,hct⟩
  rw [ln,List.drop_eq_nil_of_le (by rw [List.length_zip];lia)] at hct
  have hct:ct=bound d l:=hct
  rw [←hct] at k0
  exact ⟨_,rfl,k0 H2 (S01.trans S2)⟩
def wA (d:Day) (x:List Nat):List Nat:=match (pairsOf d.cars.length d.supply.length).find? fun (y:Nat×Nat)=>decide ((((taskOf d).rates.getD y.1 []).getD y.2 0) < at_ d.supply.length x y.1 y.2) with
 | some y=>[1,y.1,y.2]
 | none=>[]
def wB (d:Day) (x:List Nat):List Nat:=match (List.range d.cars.length).find? fun (c:Nat)=>ofCar d.supply.length x c != (taskOf d).needs.getD c 0 with
 | some c=>[2,c,0]
 | none=>[]
def wC (d:Day) (x:List Nat):List Nat:=match (List.range d.supply.length).find? fun (u:Nat)=>decide (d.supply.getD u 0 < ofSlot d.supply.length d.cars.length x u) with
 | some u=>[3,u,0]
 | none=>[]
def zUQ (d:Day) (x:List Nat):List Nat:=match wrong d x with
 | some y=>[y.1,y.2.1,y.2.2]
 | none=>[]
theorem zRN (d:Day) (x:List Nat):zUQ d x=if wA d x=[] then (if wB d x=[] then wC d x else wB d x) else wA d x:=by
 unfold zUQ wrong wA wB wC
 show (match (match (pairsOf d.cars.length d.supply.length).find? fun (y:Nat×Nat)=>decide ((((taskOf d).rates.getD y.1 []).getD y.2 0) < at_ d.supply.length x y.1 y.2) with
  | some y=>some (1,y.1,y.2)
  | none=>match (List.range d.cars.length).find? fun (c:Nat)=>ofCar d.supply.length x c != (taskOf d).needs.getD c 0 with
   | some c=>some (2,c,0)
   | none=>((List.range d.supply.length).find? fun (u:Nat)=>decide (d.supply.getD u 0 < ofSlot d.supply.length d.cars.length x u)).map fun (u:Nat)=>(3,u,0)) with
  | some y=>[y.1,y.2.1,y.2.2]
  | none=>[])=_
 cases (pairsOf d.cars.length d.supply.length).find? fun (y:Nat×Nat)=>decide ((((taskOf d).rates.getD y.1 []).getD y.2 0) < at_ d.supply.length x y.1 y.2) with
 | some y=>rfl
 | none=>
  cases (List.range d.cars.length).find? fun (c:Nat)=>ofCar d.supply.length x c != (taskOf d).needs.getD c 0 with
  | some c=>rfl
  | none=>
   cases (List.range d.supply.length).find? fun (u:Nat)=>decide (d.supply.getD u 0 < ofSlot d.supply.length d.cars.length x u) with
   | some u=>rfl
   | none=>rfl
theorem z04 {n m k:Nat}{y:Nat×Nat} (h:(pairsOf n m)[k]?=some y):y.1 < n∧y.2 < m∧k=y.1 * m+y.2:=by
 have hk:=(List.getElem?_eq_some_iff.mp h).1
 rw [Chg.pairs_len] at hk
 have hm:0 < m:=by
  rcases Nat.eq_zero_or_pos m with z|z
  ·rw [z,Nat.mul_zero] at hk
   lia
  ·exact z
 have h1:k / m < n:=(Nat.div_lt_iff_lt_mul hm).mpr hk
 have h2:k % m < m:=Nat.mod_lt _ hm
 have h3:k / m * m+k % m=k:=by
  rw [Nat.mul_comm]
  exact Nat.div_add_mod k m
 have:=Chg.zSA h2 h1
 rw [h3,h] at this
 rw [zsi this]
 exact ⟨h1,h2,h3.symm⟩
section
variable {K:Fg}{H H0:Hp}{a:Addr}{pl:List Nat}{m n:Nat}{Q:VK}{σ:L2.St}
theorem vO:(zYh pl m n).length=n:=by
 unfold zYh
 rw [zlm,List.length_range]
theorem z2P {c:Nat} (h:zUe H0 H a (zYh pl m n)) (hc:c < n) (k:∀q,IL H q (zn (rowAt pl m c))→Q (.ref q) H):rIxL K (.ref a) (.int c) H Q:=by
 obtain ⟨qs,h1,h2⟩:=h
 have hq:c < qs.length:=by
  rw [h2.len,vO]
  exact hc
 refine jQ h1 (zge hq) (k _ (h2.get (zge hq) ?_).1)
 unfold zYh
 rw [zgm,List.getElem?_range hc]
 rfl
theorem zUe.len {rows:List (List Nat)} (h:zUe H0 H a rows) (q:Q (.int rows.length) H):tNil σ H fun xs H2=>rLen K (.ref a::xs) H2 Q:=by
 obtain ⟨qs,h1,h2⟩:=h
 exact lenR h1 (by rw [h2.len];exact q)
end
abbrev zQE (t:Adr) (a b:V) (H:Hp) (pl:List Nat) (d:Day):Prop:=∃(p q:Addr) (H0:Hp),a=.ref p∧b=.ref q∧zUe H0 H p (zYh pl d.supply.length d.cars.length)∧DayR t H q d∧DayB d∧pl.length=d.supply.length * d.cars.length
inductive zZk (t:Adr) (a:V) (b:V) (H:Hp) (Q:VK):Prop
 | mk (pl:_) (d:_) (_:zQE t a b H pl d) (_:RZ t H Q (zn (wA d pl))):zZk t a b H Q
theorem zXo (T:Txt K mg t):Own P w K mg base 2 "more_than_it_can" ["rows", "day"] (Sp2 (zZk t)):=by
 refine own2 T.d_more_than_it_can u9 fun a b H Q h f cdv A outer s E hr=>?_
 obtain ⟨pl,d,⟨p,q,H0,rfl,rfl,hR,hd,B,lp⟩,k0⟩:=h
 refine ⟨_,(zW (kQ PassesOwn.never rfl (wO (by rfl) T.b_range (zZ (y8 K T.b_len (zZ (pv 0) zY)) zY)) (yZ (i:=2) u9.nd)
   (zV (kQ PassesOwn.never rfl (wO (by rfl) T.b_range (zZ (y8 K T.b_len (zZ (zR K (pv 1) rfl) zY)) zY)) (yZ (i:=3) u9.nd)
   (zV (yO (z8 zT1 (yP (z4 K) (yP (z4 K) (pv 0) (pv 2) (fun _ _=>rfl)) (pv 3) (fun _ _=>rfl)) (zS (zYT T) hr.o (zZ (yP (z4 K) (zR K (pv 1) rfl) (pv 2) (fun _ _=>rfl)) (zZ (pv 3) zY))) (z9 _)) (zV (zQ (yX (zZ (z5 T.g_MORE_THAN_IT_CAN) (zZ (pv 2) (zZ (pv 3) zY)))))) z7)))))
   (zV (zQ (yX zY)))),?_⟩
 obtain ⟨dx,nm,sp,pr,cs,as,h1,h2,h3,h4,h5,h6⟩:=xQ hd
 have b2:=B.hi
 have b5:=B.cars
 have las:=h6.len
 have rt:∀c s,s < d.supply.length→((taskOf d).rates.getD c []).getD s 0=canTake (d.cars.getD c Chg.car0) s:=fun c s hs=>Chg.zU2 c hs
 refine ⟨_,rfl,zUe.len hR ⟨_,rfl,by rw [vO];lia,by rw [vO];lia,k7 (Ts:=Ts t) (H1:=H) (y6.rng _) (fun i σ H'=>Sm (Ts t) H H'∧(∀c s,c < i→s < d.supply.length→at_ d.supply.length pl c s≤canTake (d.cars.getD c Chg.car0) s)∧∃o2 o3,σ=[some (.ref p),some (.ref q),o2,o3]) (fun _ _ _ h=>h.1) ⟨Sm.refl _,(fun c s hc=>absurd hc (Nat.not_lt_zero c)),none,none,rfl⟩ ?_ ?_⟩⟩
 ·rintro c x σ H1 H2 hc ⟨S1,ok1,o2,o3,rfl⟩ S2 rfl
  rw [Int.toNat_natCast,vO] at hc
  have S12:=S1.trans S2
  refine ⟨_,rfl,ds T (S12.keep _ _ h1 z0) (lenI (h3.sm S12) ⟨_,rfl,by rw [z6];lia,by rw [z6];lia,k7 (Ts:=Ts t) (H1:=H) (y6.rng _) (fun u σ H'=>Sm (Ts t) H H'∧(∀s,s < u→at_ d.supply.length pl c s≤canTake (d.cars.getD c Chg.car0) s)∧∃o3,σ=[some (.ref p),some (.ref q),some (.int c),o3]) (fun _ _ _ h=>h.1) ⟨S12,(fun s hs=>absurd hs (Nat.not_lt_zero s)),_,rfl⟩ ?_ ?_⟩)⟩
  ·rintro u x σ H3 H4 hu ⟨S3,ok3,o3,rfl⟩ S4 rfl
   rw [Int.toNat_natCast,z6] at hu
   have S04:=S3.trans S4
   have hca:c < as.length:=by lia
   have ca:=h6.get (zge hca) (by rw [zge hc,←Chg.vX hc (d:=Chg.car0)]:d.cars[c]?=some (d.cars.getD c Chg.car0))
   refine ⟨_,rfl,_,rfl,z2P (hR.sm S04) hc fun r hr0=>⟨_,rfl,zYP hr0 (by rw [zZw lp hc];exact hu) ?_⟩⟩
   have ea:(rowAt pl d.supply.length c).getD u 0=at_ d.supply.length pl c u:=zYY lp hc hu
   rw [ea]
   refine ⟨_,rfl,dc T (S04.keep _ _ h1 z0) ⟨_,rfl,jQ (h5.sm S04) (zge hca) ⟨_,rfl,_,_,rfl,_,_,u,rfl,ca.sm S04,rfl,fun H5 S5=>⟨_,_,rfl,rfl,_,rfl,itP (fun z=>?_) fun z=>?_⟩⟩⟩⟩
   ·refine ⟨_,rfl,_,rfl,sz rfl,fun D hD=>k0 D _ ((S04.trans S5).add hD) ((S04.trans S5).free hD) ?_⟩
    have e:wA d pl=[1,c,u]:=by
     unfold wA
     rw [Chg.z3H (Chg.zSA hu hc) (by
      show decide ((((taskOf d).rates.getD c []).getD u 0) < at_ d.supply.length pl c u)=true
      rw [rt c u hu,zde]
      exact Int.ofNat_lt.mp z) fun j y hj hy=>?_]
     obtain ⟨y1,y2,rfl⟩:=z04 hy
     show decide ((((taskOf d).rates.getD y.1 []).getD y.2 0) < at_ d.supply.length pl y.1 y.2)=false
     rw [rt y.1 y.2 y2,decide_eq_false_iff_not,Nat.not_lt]
     rcases Nat.lt_trichotomy y.1 c with z1|z1|z1
     ·exact ok1 _ _ z1 y2
     ·rw [z1]
      refine ok3 _ ?_
      rw [z1] at hj
      lia
     ·exfalso
      have:(c+1) * d.supply.length≤y.1 * d.supply.length:=Nat.mul_le_mul_right _ z1
      rw [Nat.succ_mul] at this
      lia
    rw [e]
    exact zX
   ·refine ⟨S04.trans S5,fun s hs=>?_,_,rfl⟩
    rcases Nat.lt_or_ge s u with z1|z1
    ·exact ok3 s z1
    ·have:s=u:=by lia
     rw [this]
     have z:¬((canTake (d.cars.getD c Chg.car0) u:Nat):Int) < ((at_ d.supply.length pl c u:Nat):Int):=z
     lia
  ·rintro σ H3 ⟨S3,ok3,o3,rfl⟩
   rw [Int.toNat_natCast,z6] at ok3
   refine ⟨S3,fun c' s h1 h2=>?_,_,_,rfl⟩
   rcases Nat.lt_or_ge c' c with z1|z1
   ·exact ok1 c' s z1 h2
   ·have:c'=c:=by lia
    rw [this]
    exact ok3 s h2
 ·rintro σ H1 ⟨S1,ok1,o2,o3,rfl⟩
  rw [Int.toNat_natCast,vO] at ok1
  refine ⟨sz rfl,fun D hD=>k0 D _ (S1.add hD) (S1.free hD) ?_⟩
  have e:wA d pl=[]:=by
   unfold wA
   rw [Chg.z5k fun j y hy=>?_]
   obtain ⟨y1,y2,rfl⟩:=z04 hy
   show decide ((((taskOf d).rates.getD y.1 []).getD y.2 0) < at_ d.supply.length pl y.1 y.2)=false
   rw [rt y.1 y.2 y2,decide_eq_false_iff_not,Nat.not_lt]
   exact ok1 _ _ y1 y2
  rw [e]
  exact zX
theorem zTb {n i:Nat} (h:i < n):(List.range n)[i]?=some i:=List.getElem?_range h
inductive zY2 (t:Adr) (a:V) (b:V) (H:Hp) (Q:VK):Prop
 | mk (pl:_) (d:_) (_:zQE t a b H pl d) (_:RZ t H Q (zn (wB d pl))):zY2 t a b H Q
theorem zVz (T:Txt K mg t):Own P w K mg base 1 "not_its_need" ["rows", "day"] (Sp2 (zY2 t)):=by
 refine own2 T.d_not_its_need zYN fun a b H Q h f cdv A outer s E hr=>?_
 obtain ⟨pl,d,⟨p,q,H0,rfl,rfl,hR,hd,B,lp⟩,k0⟩:=h
 refine ⟨_,(zW (kQ PassesOwn.never rfl (wO (by rfl) T.b_range (zZ (y8 K T.b_len (zZ (pv 0) zY)) zY)) (yZ (i:=2) zYN.nd)
   (zV (yO (z8 zRb (yS (sumK K rfl) (by rfl) T.b_sum (by decide +kernel) (zZ (yP (z4 K) (pv 0) (pv 2) (fun _ _=>rfl)) zY)) (zR K (yP (z4 K) (zR K (pv 1) rfl) (pv 2) (fun _ _=>rfl)) rfl) (z9 _)) (zV (zQ (yX (zZ (z5 T.g_NOT_ITS_NEED) (zZ (pv 2) (zZ z3 zY)))))) z7)))
   (zV (zQ (yX zY)))),?_⟩
 obtain ⟨dx,nm,sp,pr,cs,as,h1,h2,h3,h4,h5,h6⟩:=xQ hd
 have b2:=B.hi
 have b5:=B.cars
 have las:=h6.len
 have oc:∀c,c < d.cars.length→sumOf (rowAt pl d.supply.length c)=ofCar d.supply.length pl c:=fun c hc=>by
  unfold ofCar
  rw [←List.take_of_length_le (Nat.le_of_eq (zZw lp hc)),←zTI _ (by rw [zZw lp hc];exact Nat.le_refl _)]
  congr 1
  exact List.map_congr_left fun u hu=>zYY lp hc (List.mem_range.mp hu)
 have nd:∀c,c < d.cars.length→(taskOf d).needs.getD c 0=(d.cars.getD c Chg.car0).need:=fun c hc=>Chg.z3k c
 refine ⟨_,rfl,zUe.len hR ⟨_,rfl,by rw [vO];lia,by rw [vO];lia,k7 (Ts:=Ts t) (H1:=H) (y6.rng _) (fun i σ H'=>Sm (Ts t) H H'∧(∀c,c < i→ofCar d.supply.length pl c=(d.cars.getD c Chg.car0).need)∧∃o2,σ=[some (.ref p),some (.ref q),o2]) (fun _ _ _ h=>h.1) ⟨Sm.refl _,(fun c hc=>absurd hc (Nat.not_lt_zero c)),none,rfl⟩ ?_ ?_⟩⟩
 ·rintro c x σ H1 H2 hc ⟨S1,ok1,o2,rfl⟩ S2 rfl
  rw [Int.toNat_natCast,vO] at hc
  have S12:=S1.trans S2
  have hca:c < as.length:=by lia
  have ca:=h6.get (zge hca) (by rw [zge hc,←Chg.vX hc (d:=Chg.car0)]:d.cars[c]?=some (d.cars.getD c Chg.car0))
  refine ⟨_,rfl,_,rfl,z2P (hR.sm S12) hc fun r hr0=>⟨r,_,rfl,SqL.of hr0,?_⟩⟩
  rw [zVw,oc c hc]
  refine ⟨_,rfl,dc T (S12.keep _ _ h1 z0) ⟨_,rfl,jQ (h5.sm S12) (zge hca) (zWs T (ca.sm S12) ⟨rfl,_,rfl,itB (fun z=>?_) fun z=>?_⟩)⟩⟩
  ·refine ⟨_,rfl,sz rfl,fun D hD=>k0 D _ (S12.add hD) (S12.free hD) ?_⟩
   have e:wB d pl=[2,c,0]:=by
    unfold wB
    rw [Chg.z3H (zTb hc) (by
     show (ofCar d.supply.length pl c != (taskOf d).needs.getD c 0)=true
     rw [nd c hc,bne_iff_ne]
     intro y
     exact nEq z (by rw [y])) fun j y hj hy=>?_]
    rw [zTb (by lia)] at hy
    obtain rfl:=zsi hy
    show (ofCar d.supply.length pl j != (taskOf d).needs.getD j 0)=false
    rw [nd j (by lia),ok1 j hj,bne_self_eq_false]
   rw [e]
   exact zX
  ·refine ⟨S12,fun c' hc'=>?_,_,rfl⟩
   rcases Nat.lt_or_ge c' c with z1|z1
   ·exact ok1 c' z1
   ·have:c'=c:=by lia
    rw [this]
    exact Int.ofNat.inj (nNe z)
 ·rintro σ H1 ⟨S1,ok1,o2,rfl⟩
  rw [Int.toNat_natCast,vO] at ok1
  refine ⟨sz rfl,fun D hD=>k0 D _ (S1.add hD) (S1.free hD) ?_⟩
  have e:wB d pl=[]:=by
   unfold wB
   rw [Chg.z5k fun j y hy=>?_]
   have hj:=(List.getElem?_eq_some_iff.mp hy).1
   rw [List.length_range] at hj
   rw [zTb hj] at hy
   obtain rfl:=zsi hy
   show (ofCar d.supply.length pl j != (taskOf d).needs.getD j 0)=false
   rw [nd j hj,ok1 j hj,bne_self_eq_false]
  rw [e]
  exact zX
inductive kP (t:Adr) (a:V) (b:V) (H:Hp) (Q:VK):Prop
 | mk (pl:_) (d:_) (_:zQE t a b H pl d) (_:RZ t H Q (zn (wC d pl))):kP t a b H Q
theorem zYG (T:Txt K mg t):Own P w K mg base 2 "more_than_there_is" ["rows", "day"] (Sp2 (kP t)):=by
 refine own2 T.d_more_than_there_is v7 fun a b H Q h f cdv A outer s E hr=>?_
 obtain ⟨pl,d,⟨p,q,H0,rfl,rfl,hR,hd,B,lp⟩,k0⟩:=h
 refine ⟨_,(zW (yY (i:=2) v7.nd (zS (zVp T) hr.o (zZ (pv 0) (zZ (y8 K T.b_len (zZ (zR K (pv 1) rfl) zY)) zY))))
   (zW (kQ PassesOwn.never rfl (wO (by rfl) T.b_range (zZ (y8 K T.b_len (zZ (pv 2) zY)) zY)) (yZ (i:=3) v7.nd)
   (zV (yO (z8 zT1 (yP (z4 K) (pv 2) (pv 3) (fun _ _=>rfl)) (yP (z4 K) (zR K (pv 1) rfl) (pv 3) (fun _ _=>rfl)) (z9 _)) (zV (zQ (yX (zZ (z5 T.g_MORE_THAN_THERE_IS) (zZ (pv 3) (zZ z3 zY)))))) z7)))
   (zV (zQ (yX zY))))),?_⟩
 obtain ⟨dx,nm,sp,pr,cs,as,h1,h2,h3,h4,h5,h6⟩:=xQ hd
 have b2:=B.hi
 have b5:=B.cars
 have rl:∀r∈zYh pl d.supply.length d.cars.length,r.length=d.supply.length:=fun r hr=>by
  obtain ⟨c,hc,rfl⟩:=List.mem_map.mp hr
  exact zZw lp (List.mem_range.mp hc)
 have os:(List.range d.supply.length).map (fun s=>sumOf ((zYh pl d.supply.length d.cars.length).map fun r=>r.getD s 0))=(List.range d.supply.length).map (ofSlot d.supply.length d.cars.length pl):=by
  refine List.map_congr_left fun s hs=>?_
  unfold zYh ofSlot
  rw [List.map_map]
  congr 1
  exact List.map_congr_left fun c hc=>zYY lp (List.mem_range.mp hc) (List.mem_range.mp hs)
 refine ⟨_,rfl,_,rfl,ds T h1 (lenI h3 ⟨_,_,rfl,p,_,d.supply.length,H0,rfl,by rw [z6],hR,by rw [vO];lia,by lia,rl,fun L H1 S1 nL hL=>?_⟩)⟩
 rw [os] at hL
 have ln:((List.range d.supply.length).map (ofSlot d.supply.length d.cars.length pl)).length=d.supply.length:=by
  rw [zlm,List.length_range]
 have gt:∀u,u < d.supply.length→((List.range d.supply.length).map (ofSlot d.supply.length d.cars.length pl)).getD u 0=ofSlot d.supply.length d.cars.length pl u:=fun u hu=>by
  rw [Chg.vX (by rw [ln];exact hu),List.getElem_map,List.getElem_range]
 refine ⟨_,rfl,lenI hL ⟨_,rfl,by rw [z6,ln];lia,by rw [z6,ln];lia,k7 (Ts:=Ts t) (H1:=H1) (y6.rng _) (fun i σ H'=>Sm (Ts t) H1 H'∧(∀u,u < i→ofSlot d.supply.length d.cars.length pl u≤d.supply.getD u 0)∧∃o3,σ=[some (.ref p),some (.ref q),some (.ref L),o3]) (fun _ _ _ h=>h.1) ⟨Sm.refl _,(fun c hc=>absurd hc (Nat.not_lt_zero c)),none,rfl⟩ ?_ ?_⟩⟩
 ·rintro u x σ H2 H3 hu ⟨S2,ok2,o3,rfl⟩ S3 rfl
  rw [Int.toNat_natCast,z6,ln] at hu
  have S13:=S2.trans S3
  have S03:=S1.trans S13
  refine ⟨_,rfl,_,rfl,zYP (hL.sm S13) (by rw [ln];exact hu) ?_⟩
  rw [gt u hu]
  refine ⟨_,rfl,ds T (S03.keep _ _ h1 z0) ⟨_,rfl,zYP (h3.sm S03) hu ⟨_,_,rfl,rfl,_,rfl,itP (fun z=>?_) fun z=>?_⟩⟩⟩
  ·refine ⟨_,rfl,sz rfl,fun D hD=>k0 D _ (S03.add hD) (S03.free hD) ?_⟩
   have e:wC d pl=[3,u,0]:=by
    unfold wC
    rw [Chg.z3H (zTb hu) (by
     rw [zde]
     exact Int.ofNat_lt.mp z) fun j y hj hy=>?_]
    rw [zTb (by lia)] at hy
    obtain rfl:=zsi hy
    rw [decide_eq_false_iff_not,Nat.not_lt]
    exact ok2 j hj
   rw [e]
   exact zX
  ·refine ⟨S13,fun u' hu'=>?_,_,rfl⟩
   rcases Nat.lt_or_ge u' u with z1|z1
   ·exact ok2 u' z1
   ·have:u'=u:=by lia
    rw [this]
    have z:¬((d.supply.getD u 0:Nat):Int) < ((ofSlot d.supply.length d.cars.length pl u:Nat):Int):=z
    lia
 ·rintro σ H2 ⟨S2,ok2,o3,rfl⟩
  rw [Int.toNat_natCast,z6,ln] at ok2
  refine ⟨sz rfl,fun D hD=>k0 D _ ((S1.trans S2).add hD) ((S1.trans S2).free hD) ?_⟩
  have e:wC d pl=[]:=by
   unfold wC
   rw [Chg.z5k fun j y hy=>?_]
   have hj:=(List.getElem?_eq_some_iff.mp hy).1
   rw [List.length_range] at hj
   rw [zTb hj] at hy
   obtain rfl:=zsi hy
   rw [decide_eq_false_iff_not,Nat.not_lt]
   exact ok2 j hj
  rw [e]
  exact zX
inductive zUx (t:Adr) (a:V) (b:V) (H:Hp) (Q:VK):Prop
 | mk (pl:_) (d:_) (_:zQE t a b H pl d) (_:RZ t H Q (zn (zUQ d pl))):zUx t a b H Q
theorem zSK (T:Txt K mg t):Own P w K mg base 3 "wrong_of" ["rows", "day"] (Sp2 (zUx t)):=by
 refine own2 T.d_wrong_of zYg fun a b H Q h f cdv A outer s E hr=>?_
 obtain ⟨pl,d,⟨p,q,H0,rfl,rfl,hR,hd,B,lp⟩,k0⟩:=h
 refine ⟨_,(zW (yY (i:=2) zYg.nd (zS (zXo T) hr.o (zZ (pv 0) (zZ (pv 1) zY))))
   (zW (yO (z8 u5 (y8 K T.b_len (zZ (pv 2) zY)) z3 (z9 _)) (zV (yY (i:=2) zYg.nd (zS (zVz T) hr.o (zZ (pv 0) (zZ (pv 1) zY))))) z7)
   (zW (yO (z8 u5 (y8 K T.b_len (zZ (pv 2) zY)) z3 (z9 _)) (zV (yY (i:=2) zYg.nd (zS (zYG T) hr.o (zZ (pv 0) (zZ (pv 1) zY))))) z7)
   (zV (zQ (pv 2)))))),?_⟩
 rw [zRN] at k0
 refine ⟨_,rfl,_,rfl,_,_,rfl,pl,d,⟨p,q,H0,rfl,rfl,hR,hd,B,lp⟩,fun D H1 S1 nD hD=>?_⟩
 have emp:∀x:List Nat,decide (V.int ((zn x).length:Int)=V.int 0)=decide (x=[]):=fun x=>by
  rw [zYj,z6,Bool.eq_iff_iff,beq_iff_eq,zde,←List.length_eq_zero_iff]
  lia
 refine ⟨_,rfl,lenI hD ⟨rfl,_,rfl,?_⟩⟩
 rw [emp]
 refine itP (fun z=>?_) fun z=>?_
 ·rw [if_pos z] at k0
  refine ⟨_,rfl,_,rfl,_,_,rfl,pl,d,⟨p,q,H0,rfl,rfl,hR.sm S1,hd.sm S1,B,lp⟩,fun D2 H2 S2 nD2 hD2=>?_⟩
  refine ⟨_,rfl,lenI hD2 ⟨rfl,_,rfl,?_⟩⟩
  rw [emp]
  have S12:=S1.trans S2
  refine itP (fun z=>?_) fun z=>?_
  ·rw [if_pos z] at k0
   exact ⟨_,rfl,_,rfl,_,_,rfl,pl,d,⟨p,q,H0,rfl,rfl,hR.sm S12,hd.sm S12,B,lp⟩,fun D3 H3 S3 nD3 hD3=>⟨_,rfl,k0 D3 H3 (S12.trans S3) (S12.free nD3) hD3⟩⟩
  ·rw [if_neg z] at k0
   exact ⟨_,rfl,k0 D2 H2 S12 (S1.free nD2) hD2⟩
 ·rw [if_neg z] at k0
  refine ⟨_,rfl,lenI hD ⟨rfl,_,rfl,?_⟩⟩
  rw [emp,decide_eq_false z]
  exact ⟨_,rfl,k0 D H1 S1 nD hD⟩
end
open PySem PySem.Spec PyProof.Rows L2
open GarText (Bytes)
open GarPlug (Car Day)
open GarLoad
open Chg (canTake xY qZ uS zZC tk yT pick excL lowL x9 xW without kW zX7)
section
variable {P:Program}{w:World}{K:Fg}{mg:Str→Option Value}{base:Heap}{t:Adr}
inductive zSo (t:Adr) (a:V) (b:V) (H:Hp) (Q:VK):Prop
 | mk (p:Addr) (d:Day) (k:Nat) (_:a=.ref p) (_:b=.int k) (_:DayR t H p d) (_:DayB d) (_:feasible (tk d.cars d.supply)=true) (_:k < d.supply.length) (_:RI t H Q ((d.supply.getD k 0-leastAt (taskOf d) k:Nat):Int)):zSo t a b H Q
theorem zQY (T:Txt K mg t):Own P w K mg base 5 "spared" ["day", "slot"] (Sp2 (zSo t)):=by
 refine own2 T.d_spared z0H fun a b H Q h f cdv A outer s E hr=>?_
 obtain ⟨p,d,k,rfl,rfl,hd,B,F,hk,k0⟩:=h
 refine ⟨_,(zV (zQ (yQ zZL (yP (z4 K) (zR K (pv 0) rfl) (pv 1) (fun _ _=>rfl)) (zS (qY T) hr.o (zZ (zS (vP T) hr.o (zZ (zR K (pv 0) rfl) zY)) (zZ (zR K (pv 0) rfl) (zZ (pv 1) zY))))))),?_⟩
 obtain ⟨dx,nm,sp,pr,cs,as,h1,h2,h3,h4,h5,h6⟩:=xQ hd
 have b2:=B.hi
 have b5:=B.cars
 refine ⟨_,rfl,ds T h1 ⟨_,rfl,zYP h3 hk ⟨_,rfl,dc T h1 ⟨_,rfl,cs,as,rfl,h5,by rw [h6.len];exact b5,fun D H1 S1 nD hN=>?_⟩⟩⟩⟩
 refine ⟨_,rfl,ds T (S1.keep _ _ h1 z0) ⟨_,rfl,_,_,_,rfl,D,sp,as,d.cars,d.supply,k,rfl,rfl,rfl,hN.a,wZ h6 S1,b5,h3.sm S1,by lia,hk,fun H2 S2=>⟨_,_,rfl,rfl,?_⟩⟩⟩
 have le:=Chg.least_le hk F
 have e:((d.supply.getD k 0:Nat):Int)-((leastAt (tk d.cars d.supply) k:Nat):Int)=((d.supply.getD k 0-leastAt (taskOf d) k:Nat):Int):=by
  show _=((d.supply.getD k 0-leastAt (tk d.cars d.supply) k:Nat):Int)
  lia
 show Q (.int (((d.supply.getD k 0:Nat):Int)-((leastAt (tk d.cars d.supply) k:Nat):Int))) H2
 rw [e]
 exact k0 H2 (S1.trans S2)
inductive zSH (t:Adr) (a:V) (b:V) (H:Hp) (Q:VK):Prop
 | mk (p:Addr) (d:Day) (k:Nat) (_:a=.ref p) (_:b=.int k) (_:DayR t H p d) (_:DayB d) (_:(∀n∈d.supply,n≤60)) (_:TabsOk (Ts t) H) (_:feasible (tk d.cars d.supply)=true) (_:k < d.supply.length) (_:RI t H Q ((costNow d-costNow (giving d k (d.supply.getD k 0+1)):Nat):Int)):zSH t a b H Q
theorem zQI (T:TxtB K mg base t):Own P w K mg base 8 "gained" ["day", "slot"] (Sp2 (zSH t)):=by
 refine own2 T.d_gained zS7 fun a b H Q h f cdv A outer s E hr=>?_
 obtain ⟨p,d,k,rfl,rfl,hd,B,B60,tab,F,hk,k0⟩:=h
 refine ⟨_,(zW (yY (i:=2) zS7.nd (jS (zVO K) (by rfl) T.b_list (by decide +kernel) (zZ (zR K (pv 0) rfl) zY)))
   (zW (zQq (yQ vR (yP (z4 K) (pv 2) (pv 1) (fun _ _=>rfl)) z3) (zQt (pv 2) (pv 1) set_list))
   (zV (zQ (yQ zZL (zS (zXx T) hr.o (zZ (pv 0) zY)) (zS (zXx T) hr.o (zZ (z0U (z1n T.toTxt) hr.o (zZ (zR K (pv 0) rfl) (zZ (pv 2) (zZ (zR K (pv 0) rfl) (zZ (zR K (pv 0) rfl) zY))))) zY))))))),?_⟩
 obtain ⟨dx,nm,sp,pr,cs,as,h1,h2,h3,h4,h5,h6⟩:=xQ hd
 have b4:=B.pr
 have mono:=Chg.z4Y (cars:=d.cars) (sup:=d.supply) (sup':=d.supply.set k (d.supply.getD k 0+1)) b4 List.length_set (fun u=>by
  rw [List.getD_eq_getElem?_getD,List.getD_eq_getElem?_getD,List.getElem?_set]
  split
  ·rename_i e
   subst e
   show _≤d.supply.getD k 0+1
   rw [List.getD_eq_getElem?_getD]
   exact Nat.le_succ _
  ·exact Nat.le_refl _) F
 have B2:DayB (giving d k (d.supply.getD k 0+1)):=⟨B.name,by show 1≤(d.supply.set _ _).length;rw [List.length_set];exact B.lo,by show (d.supply.set _ _).length≤12;rw [List.length_set];exact B.hi,by show _=(d.supply.set _ _).length;rw [List.length_set];exact B.pr,B.cars,fun n hn=>by
  rcases List.mem_or_eq_of_mem_set hn with z|z
  ·exact B.sup n z
  ·rw [z,Chg.vX hk]
   have:=B60 _ (List.getElem_mem hk)
   lia,B.pri,B.car⟩
 refine ⟨_,rfl,ds T.toTxt h1 (listI h3 fun L hL=>?_)⟩
 have SL:Sm (Ts t) H (upd H L (.lst ((zn d.supply).map V.int))):=Sm.new hL
 have hL1:IL (upd H L (.lst ((zn d.supply).map V.int))) L (zn d.supply):=zX
 refine ⟨_,rfl,_,rfl,zYP hL1 hk ⟨_,_,rfl,rfl,_,rfl,_,rfl,set_int (v:=d.supply.getD k 0+1) hL1 hk rfl ?_⟩⟩
 have SL2:Sm (Ts t) H (upd (upd H L (.lst ((zn d.supply).map V.int))) L (.lst ((zn (d.supply.set k (d.supply.getD k 0+1))).map V.int))):=SL.acc hL hL1
 have hL2:IL (upd (upd H L (.lst ((zn d.supply).map V.int))) L (.lst ((zn (d.supply.set k (d.supply.getD k 0+1))).map V.int))) L (zn (d.supply.set k (d.supply.getD k 0+1))):=zX
 generalize upd (upd H L (.lst ((zn d.supply).map V.int))) L (.lst ((zn (d.supply.set k (d.supply.getD k 0+1))).map V.int))=H2 at *
 refine ⟨_,rfl,_,rfl,p,d,rfl,hd.sm SL2,B,SL2.ok tab,fun H3 S3=>?_⟩
 have S03:=SL2.trans S3
 have g1:=S03.keep _ _ h1 z0
 refine ⟨_,rfl,dn T.toTxt g1 ⟨_,rfl,_,rfl,dp T.toTxt g1 ⟨_,rfl,dc T.toTxt g1 ?_⟩⟩⟩
 intro x dx' hx hdx hne
 refine ⟨x,dx',nm,L,pr,cs,rfl,zX,rfl,?_⟩
 rw [uT]
 have SX:=zWT (t:=t) (o:=.ins t.CD dx' (dayF nm L pr cs)) hx hdx hne
 have S0X:=S03.trans SX
 have hd2:DayR t (upd (upd H3 dx' (.own x)) x (.ins t.CD dx' (dayF nm L pr cs))) x (giving d k (d.supply.getD k 0+1)):=⟨dx',nm,L,pr,cs,zX,h2.sm S0X,hL2.sm (t:=t) (S3.trans SX),h4.sm S0X,as,h5.sm S0X,wZ h6 S0X⟩
 refine ⟨_,rfl,x,_,rfl,hd2,B2,S0X.ok tab,fun H4 S4=>⟨_,_,rfl,rfl,?_⟩⟩
 have le:costNow (giving d k (d.supply.getD k 0+1))≤costNow d:=mono.2
 have e:((costNow d:Nat):Int)-((costNow (giving d k (d.supply.getD k 0+1)):Nat):Int)=((costNow d-costNow (giving d k (d.supply.getD k 0+1)):Nat):Int):=by lia
 show Q (.int (((costNow d:Nat):Int)-((costNow (giving d k (d.supply.getD k 0+1)):Nat):Int))) H4
 rw [e]
 exact k0 H4 (S0X.trans S4)
inductive zXA (t:Adr) (a:V) (b:V) (H:Hp) (Q:VK):Prop
 | mk (p:Addr) (d:Day) (c:Nat) (_:a=.ref p) (_:b=.int c) (_:DayR t H p d) (_:DayB d) (_:feasible (tk d.cars d.supply)=true) (_:c < d.cars.length) (_:RI t H Q (moreFor (taskOf d) c:Nat)):zXA t a b H Q
theorem zV2 (T:Txt K mg t):Own P w K mg base 4 "needed_more" ["day", "number"] (Sp2 (zXA t)):=by
 refine own2 T.d_needed_more w9 fun a b H Q h f cdv A outer s E hr=>?_
 obtain ⟨p,d,c,rfl,rfl,hd,B,F,hc,k0⟩:=h
 refine ⟨_,(zW (yY (i:=2) w9.nd (yQ v5 (y9 (xZ K) (zR K (pv 0) rfl) v8 (xX (pv 1))) (y9 (xZ K) (zR K (pv 0) rfl) (xX (yQ vR (pv 1) z3)) v8)))
   (zW (zZH (i:=3) (own:=[("chosen", 4)]) rfl w9.nd rfl rfl (zYW rfl rfl rfl rfl) (yV K (zS (vP T) hr.o (zZ (pv 2) zY))) (yU rfl) (fun _ _ _ _ _=>(yZ (i:=4) w9.nd)) (fun _ _ _ _ _=>y4) (fun _ _ _ _ _=>(yQ v5 (pv 4) (yX (zZ (yP (z4 K) (zR K (pv 0) rfl) (pv 1) (fun _ _=>rfl)) zY)))))
   (zV (zQ (yS (minK K rfl) (by rfl) T.b_min (by decide +kernel) (zZ (zZf (own:=[("chosen", 4)]) rfl w9.nd (yV K (pv 3)) (yU rfl) (fun _ _ _ _ _=>(yZ (i:=4) w9.nd)) (fun _ _ _ _ _=>y4) (fun _ _ _ _ _=>(yQ zZL (zS (zVQ T) hr.o (zZ (pv 4) (zZ (zR K (pv 0) rfl) zY))) (zS (zZt T) hr.o (zZ (pv 4) zY))))) zY)))))),?_⟩
 obtain ⟨dx,nm,sp,pr,cs,as,h1,h2,h3,h4,h5,h6⟩:=xQ hd
 have b2:=B.hi
 have b5:=B.cars
 have las:=h6.len
 have hca:c < as.length:=by lia
 refine ⟨_,rfl,dc T h1 ⟨_,rfl,_,rfl,cs,_,rfl,SqL.of h5,fun M1 hM1=>?_⟩⟩
 have c1:cutV (as.map V.ref) none (some (c:Int))=(as.take c).map V.ref:=by
  rw [List.map_take]
  exact zRV _ (by rw [zlm];lia)
 rw [c1]
 have S1:Sm (Ts t) H (upd H M1 (.lst ((as.take c).map V.ref))):=Sm.new hM1
 have r1:RefL (upd H M1 (.lst ((as.take c).map V.ref))) M1 (as.take c):=zX
 generalize upd H M1 (.lst ((as.take c).map V.ref))=H1 at *
 refine ⟨_,rfl,dc T (S1.keep _ _ h1 z0) ⟨_,rfl,_,_,rfl,rfl,_,rfl,cs,_,rfl,SqL.of (h5.sm S1),fun M2 hM2=>?_⟩⟩
 have c2:cutV (as.map V.ref) (some ((c:Int)+1)) none=(as.drop (c+1)).map V.ref:=by
  rw [List.map_drop]
  exact uZ _ (c+1)
 rw [c2]
 have S2:Sm (Ts t) H1 (upd H1 M2 (.lst ((as.drop (c+1)).map V.ref))):=Sm.new hM2
 have r2:RefL (upd H1 M2 (.lst ((as.drop (c+1)).map V.ref))) M2 (as.drop (c+1)):=zX
 generalize upd H1 M2 (.lst ((as.drop (c+1)).map V.ref))=H2 at *
 refine RefL.app (p:=M1) (r1.sm S2) r2 (by rw [List.length_take,List.length_drop];lia) fun O hO rO=>?_
 have S3:Sm (Ts t) H2 (upd H2 O (.lst ((as.take c++as.drop (c+1)).map V.ref))):=Sm.new hO
 have rO:RefL (upd H2 O (.lst ((as.take c++as.drop (c+1)).map V.ref))) O (without as c):=rO
 generalize upd H2 O (.lst ((as.take c++as.drop (c+1)).map V.ref))=H3 at *
 have S03:=(S1.trans S2).trans S3
 have lw:=Chg.zUw (l:=as) hca
 have lw2:=Chg.zUw (l:=d.cars) hc
 refine ⟨_,rfl,_,rfl,O,without as c,rfl,rO,by lia,fun D H4 S4 nD hN=>?_⟩
 have S04:=S03.trans S4
 obtain ⟨ps,g1,g2⟩:=hN.a
 have w6:All2 (zZe t H4) (without as c) (without d.cars c):=by
  have:=wZ h6 S04
  exact (this.take c).app (this.drop (c+1))
 have hlen:ps.length=2 ^ (without d.cars c).length:=by
  rw [g2.len,Chg.zRD,w6.len]
 have ca:=(h6.get (zge hca) (by rw [zge hc,←Chg.vX hc (d:=Chg.car0)]:d.cars[c]?=some (d.cars.getD c Chg.car0))).sm (t:=t) S04
 have p64:2 ^ (without d.cars c).length≤64:=zSq (by lia)
 refine ⟨D,rfl,⟨_,SqL.of g1⟩,fun E nE=>zUc (Ts:=Ts t) (y6.seq (SqL.of g1)) nE (by rw [zlm];lia) (fun j y H'=>∃q,y=.ref q∧q≠E∧j < 2 ^ (without d.cars c).length∧RefL H' q (pick (without as c) j++[as[c]])) (fun j y Ha Hb Sab ⟨q,e1,e2,e3,e4⟩=>⟨q,e1,e2,e3,e4.sm Sab⟩) (fun j y Ha o ⟨q,e1,e2,e3,e4⟩=>⟨q,e1,e2,e3,by unfold RefL;rw [zP e2];exact e4⟩) ?_ ?_⟩
 ·intro j y H5 Q' hj S5 ⟨acc,hacc⟩ it k
  rw [zlm,hlen] at hj
  obtain ⟨q,Y,rfl,_,e2,r⟩:=z0O g2 it
  rw [Chg.z3A (by rw [w6.len];exact hj)] at e2
  obtain rfl:=zsi e2
  have S05:=S04.trans S5
  refine ⟨rfl,_,rfl,_,rfl,dc T (S05.keep _ _ h1 z0) ⟨_,rfl,jQ (h5.sm S05) (zge hca) ⟨sz rfl,fun b hb=>?_⟩⟩⟩
  have Sb:Sm (Ts t) H5 (upd H5 b (.lst [V.ref as[c]])):=Sm.new hb
  have hb1:RefL (upd H5 b (.lst [V.ref as[c]])) b [as[c]]:=zX
  have pl:=zYJ (without as c) j
  refine RefL.app (p:=b) ((r.sm S5).sm Sb) hb1 (by simp only [List.length_singleton];lia) fun z hz hz2=>?_
  exact k _ _ (Sb.add hz) ⟨z,rfl,(zT (Sb.keep _ _ hacc yR) hz).symm,hj,hz2⟩
 ·intro ys H5 S5 hys hR hE
  obtain ⟨rs,rfl⟩:=zXG ys fun j y ej=>by
   obtain ⟨q,e1,_⟩:=hR j y ej
   exact ⟨q,e1⟩
  rw [zlm,zlm,hlen] at hys
  have hE:RefL H5 E rs:=hE
  have S05:=S04.trans S5
  have ln:(rs.map V.ref).length=2 ^ (without d.cars c).length:=by rw [zlm,hys]
  refine ⟨_,rfl,E,rfl,⟨_,SqL.of hE⟩,fun G nG=>zYz (Ts:=Ts t) (y6.seq (SqL.of hE)) nG (by rw [ln];lia) (fun j=>Chg.zQC (pick (without d.cars c) j++[d.cars.getD c Chg.car0]) d.supply) (fun j v H6 Q' hj S6 it k'=>?_) fun H6 S6 hG=>?_⟩
  ·obtain ⟨q,e1,_,e3,e4⟩:=hR j v it
   subst e1
   have S06:=S05.trans S6
   have CL:zZB t H6 q (pick (without d.cars c) j++[d.cars.getD c Chg.car0]):=⟨_,e4.sm S6,((wZ w6 (S5.trans S6)).pick j).app (.cons (ca.sm (S5.trans S6)) .nil)⟩
   have pl:=zYJ (without d.cars c) j
   have lC:(pick (without d.cars c) j++[d.cars.getD c Chg.car0]).length≤100:=by
    rw [zla]
    simp only [List.length_singleton]
    lia
   refine ⟨rfl,_,rfl,_,rfl,ds T (S06.keep _ _ h1 z0) ⟨_,_,rfl,q,sp,_,d.supply,rfl,rfl,CL,lC,h3.sm S06,by lia,fun H7 S7=>⟨_,rfl,_,rfl,q,_,rfl,CL.sm S7,lC,fun H8 S8=>⟨_,_,rfl,rfl,k' H8 (S7.trans S8)⟩⟩⟩⟩
  ·rw [ln] at hG
   refine minI hG (by rw [zlm,List.length_range];exact Nat.two_pow_pos _) fun m hm hle=>?_
   have e:=Chg.z5n (cars:=d.cars) (sup:=d.supply) (c:=c) (m:=m) hc F (by
    obtain ⟨j,hj,e⟩:=List.mem_map.mp hm
    exact ⟨_,Chg.zZz.mpr ⟨j,List.mem_range.mp hj,rfl⟩,e⟩) fun Y hY=>by
    obtain ⟨j,hj,rfl⟩:=Chg.zZz.mp hY
    exact hle _ (List.mem_map.mpr ⟨j,List.mem_range.mpr hj,rfl⟩)
   rw [e]
   exact k0 H6 (S05.trans S6)
end
open PySem PySem.Spec PyProof.Rows L2
open GarText (Bytes)
open GarPlug (Car Day)
open GarLoad
open Chg (canTake xY qZ uS zZC tk yT pick excL lowL x9 xW without kW zX7)
section
variable {P:Program}{w:World}{K:Fg}{mg:Str→Option Value}{base:Heap}{t:Adr}
inductive zZ2 (t:Adr) (a:V) (b:V) (e:V) (H:Hp) (Q:VK):Prop
 | mk (p:Addr) (d:Day) (c n:Nat) (_:a=.ref p) (_:b=.int c) (_:e=.int n) (_:DayR t H p d) (_:DayB d) (_:c < d.cars.length) (_:RB t H Q (feasible (tk (kW d.cars c n) d.supply))):zZ2 t a b e H Q
theorem zWv (T:Txt K mg t):Own P w K mg base 8 "filled_if_late" ["day", "number", "later"] (Sp3 (zZ2 t)):=by
 refine own3 T.d_filled_if_late jP fun a b e H Q h f cdv A outer s E hr=>?_
 obtain ⟨p,d,c,n,rfl,rfl,rfl,hd,B,hc,k0⟩:=h
 refine ⟨_,(zW (yY (i:=3) jP.nd (yP (z4 K) (zR K (pv 0) rfl) (pv 1) (fun _ _=>rfl)))
   (zW (yY (i:=4) jP.nd (z0U (zRI T) hr.o (zZ (zR K (pv 3) rfl) (zZ (yQ vR (zR K (pv 3) rfl) (pv 2)) (zZ (zR K (pv 3) rfl) (zZ (zR K (pv 3) rfl) (zZ (zR K (pv 3) rfl) zY)))))))
   (zV (zQ (zS (j7 T) hr.o (zZ (yQ v5 (yQ v5 (y9 (xZ K) (zR K (pv 0) rfl) v8 (xX (pv 1))) (yX (zZ (pv 4) zY))) (y9 (xZ K) (zR K (pv 0) rfl) (xX (yQ vR (pv 1) z3)) v8)) (zZ (zR K (pv 0) rfl) zY))))))),?_⟩
 obtain ⟨dx,nm,sp,pr,cs,as,h1,h2,h3,h4,h5,h6⟩:=xQ hd
 have b2:=B.hi
 have b5:=B.cars
 have las:=h6.len
 have hca:c < as.length:=by lia
 have ca:=(h6.get (zge hca) (by rw [zge hc,←Chg.vX hc (d:=Chg.car0)]:d.cars[c]?=some (d.cars.getD c Chg.car0)))
 generalize hx0:d.cars.getD c Chg.car0=x0 at ca
 refine ⟨_,rfl,dc T h1 ⟨_,rfl,jQ h5 (zge hca) ?_⟩⟩
 obtain ⟨cdx,cnm,q1,q2⟩:=ca
 have ca:zZe t H as[c] x0:=⟨cdx,cnm,q1,q2⟩
 refine ⟨_,rfl,as[c],_,cdx,_,_,rfl,q1,T.k_Car.cl,T.k_Car.no _ (by decide +kernel),zSW,?_⟩
 refine ⟨_,rfl,zYH T ca ⟨_,rfl,_,_,rfl,rfl,_,rfl,zZ6 T ca ⟨_,rfl,zWs T ca ⟨_,rfl,zVP T ca ?_⟩⟩⟩⟩
 intro x dx' hx hdx hne
 refine ⟨x,dx',cnm,zX7 x0 n,rfl,zX,rfl,?_⟩
 rw [uT]
 have SX:=zWT (t:=t) (o:=.ins t.CC dx' (carF cnm (zX7 x0 n))) hx hdx hne
 have cx:zZe t (upd (upd H dx' (.own x)) x (.ins t.CC dx' (carF cnm (zX7 x0 n)))) x (zX7 x0 n):=⟨dx',cnm,zX,q2.sm (t:=t) SX⟩
 generalize upd (upd H dx' (.own x)) x (.ins t.CC dx' (carF cnm (zX7 x0 n)))=H1 at *
 refine ⟨_,rfl,dc T (SX.keep _ _ h1 z0) ⟨_,rfl,_,rfl,cs,_,rfl,SqL.of (h5.sm SX),fun M1 hM1=>?_⟩⟩
 have c1:cutV (as.map V.ref) none (some (c:Int))=(as.take c).map V.ref:=by
  rw [List.map_take]
  exact zRV _ (by rw [zlm];lia)
 rw [c1]
 have S1:Sm (Ts t) H1 (upd H1 M1 (.lst ((as.take c).map V.ref))):=Sm.new hM1
 have r1:RefL (upd H1 M1 (.lst ((as.take c).map V.ref))) M1 (as.take c):=zX
 generalize upd H1 M1 (.lst ((as.take c).map V.ref))=H2 at *
 refine ⟨_,rfl,sz rfl,fun M2 hM2=>?_⟩
 have S2:Sm (Ts t) H2 (upd H2 M2 (.lst [V.ref x])):=Sm.new hM2
 have r2:RefL (upd H2 M2 (.lst [V.ref x])) M2 [x]:=zX
 generalize upd H2 M2 (.lst [V.ref x])=H3 at *
 refine RefL.app (p:=M1) (r1.sm S2) r2 (by rw [List.length_take];simp only [List.length_singleton];lia) fun O hO rO=>?_
 have S3:Sm (Ts t) H3 (upd H3 O (.lst ((as.take c++[x]).map V.ref))):=Sm.new hO
 generalize upd H3 O (.lst ((as.take c++[x]).map V.ref))=H4 at *
 have S04:=((SX.trans S1).trans S2).trans S3
 refine ⟨_,rfl,dc T (S04.keep _ _ h1 z0) ⟨_,rfl,_,_,rfl,rfl,_,rfl,cs,_,rfl,SqL.of (h5.sm S04),fun M3 hM3=>?_⟩⟩
 have c2:cutV (as.map V.ref) (some ((c:Int)+1)) none=(as.drop (c+1)).map V.ref:=by
  rw [List.map_drop]
  exact uZ _ (c+1)
 rw [c2]
 have S5:Sm (Ts t) H4 (upd H4 M3 (.lst ((as.drop (c+1)).map V.ref))):=Sm.new hM3
 have r3:RefL (upd H4 M3 (.lst ((as.drop (c+1)).map V.ref))) M3 (as.drop (c+1)):=zX
 generalize upd H4 M3 (.lst ((as.drop (c+1)).map V.ref))=H5 at *
 refine RefL.app (p:=O) (rO.sm S5) r3 (by rw [zla,List.length_take,List.length_drop];simp only [List.length_singleton];lia) fun Z hZ rZ=>?_
 have S6:Sm (Ts t) H5 (upd H5 Z (.lst (((as.take c++[x])++as.drop (c+1)).map V.ref))):=Sm.new hZ
 generalize upd H5 Z (.lst (((as.take c++[x])++as.drop (c+1)).map V.ref))=H6 at *
 have S06:=(S04.trans S5).trans S6
 have S16:=(((S1.trans S2).trans S3).trans S5).trans S6
 have CL:zZB t H6 Z (kW d.cars c n):=by
  refine ⟨_,rZ,?_⟩
  unfold kW
  rw [hx0,List.set_eq_take_append_cons_drop,if_pos hc]
  have a6:=wZ h6 S06
  have:=((a6.take c).app (.cons (cx.sm S16) .nil)).app (a6.drop (c+1))
  rw [zaa,zaa] at this
  rw [zaa]
  exact this
 refine ⟨_,rfl,ds T (S06.keep _ _ h1 z0) ⟨_,_,rfl,kW d.cars c n,d.supply,⟨Z,sp,rfl,rfl,CL,by rw [Chg.z1d];exact b5,h3.sm S06,by lia⟩,fun H7 S7=>k0 H7 (S06.trans S7)⟩⟩
inductive zW5 (t:Adr) (a:V) (b:V) (H:Hp) (Q:VK):Prop
 | mk (p:Addr) (d:Day) (c:Nat) (_:a=.ref p) (_:b=.int c) (_:DayR t H p d) (_:DayB d) (_:feasible (tk d.cars d.supply)=true) (_:c < d.cars.length) (_:RI t H Q (lateness d c:Nat)):zW5 t a b H Q
theorem zTH (T:Txt K mg t):Own P w K mg base 9 "come_late" ["day", "number"] (Sp2 (zW5 t)):=by
 refine own2 T.d_come_late zZE fun a b H Q h f cdv A outer s E hr=>?_
 obtain ⟨p,d,c,rfl,rfl,hd,B,F,hc,k0⟩:=h
 refine ⟨_,(zW (yY (i:=2) zZE.nd (yP (z4 K) (zR K (pv 0) rfl) (pv 1) (fun _ _=>rfl)))
   (zW (yY (i:=3) zZE.nd z3)
   (zW (zTU PassesOwn.never (z21 (z8 zRp (yQ vR (yQ vR (zR K (pv 2) rfl) (pv 3)) z3) (zR K (pv 2) rfl) (z9 _)) (z1E (k5 (zS (zWv T) hr.o (zZ (pv 0) (zZ (pv 1) (zZ (yQ vR (pv 3) z3) zY))))))).pt
   (zV (yY (i:=3) zZE.nd (yQ vR (pv 3) z3))))
   (zV (zQ (pv 3)))))),?_⟩
 obtain ⟨dx,nm,sp,pr,cs,as,h1,h2,h3,h4,h5,h6⟩:=xQ hd
 have las:=h6.len
 have hca:c < as.length:=by lia
 have ca:=(h6.get (zge hca) (by rw [zge hc,←Chg.vX hc (d:=Chg.car0)]:d.cars[c]?=some (d.cars.getD c Chg.car0)))
 refine ⟨_,rfl,dc T h1 ⟨_,rfl,jQ h5 (zge hca) ?_⟩⟩
 refine ⟨fun m σ H'=>Sm (Ts t) H H'∧∃L:Nat,σ=[some (.ref p),some (.int c),some (.ref as[c]),some (.int L)]∧m=(d.cars.getD c Chg.car0).to_-L∧(L=0∨(d.cars.getD c Chg.car0).from_+L < (d.cars.getD c Chg.car0).to_)∧feasible (tk (kW d.cars c L) d.supply)=true,⟨_,Sm.refl _,0,rfl,rfl,.inl rfl,by rw [Chg.z4t hc];exact F⟩,?_⟩
 rintro m σ H1 ⟨S1,L,rfl,rfl,hL,hF⟩
 have ca1:=ca.sm (t:=t) S1
 refine ⟨_,rfl,zYH T ca1 ⟨_,rfl,_,_,rfl,rfl,_,_,rfl,rfl,_,rfl,zZ6 T ca1 ⟨_,_,rfl,rfl,_,rfl,itP (fun z=>?_) fun z=>?_⟩⟩⟩
 ·have z:(((d.cars.getD c Chg.car0).from_:Nat):Int)+(L:Int)+1 < ((d.cars.getD c Chg.car0).to_:Int):=z
  refine ⟨_,rfl,_,rfl,_,rfl,_,_,rfl,rfl,_,_,_,rfl,p,d,c,L+1,rfl,rfl,rfl,hd.sm S1,B,hc,fun H2 S2=>⟨_,rfl,itB (fun y=>?_) fun y=>?_⟩⟩
  ·refine ⟨fun σ' H'=>Sm (Ts t) H H'∧σ'=[some (.ref p),some (.int c),some (.ref as[c]),some (.int ((L+1:Nat):Int))],fun σ' H' q=>⟨(d.cars.getD c Chg.car0).to_-(L+1),by lia,q.1,L+1,q.2,rfl,.inr (by lia),y⟩,?_⟩
   exact ⟨_,rfl,_,_,rfl,rfl,S1.trans S2,rfl⟩
  ·have e:=Chg.z5r hc hL hF (.inr (by rw [y];decide))
   rw [e] at k0
   exact ⟨_,rfl,k0 H2 (S1.trans S2)⟩
 ·have z:¬(((d.cars.getD c Chg.car0).from_:Nat):Int)+(L:Int)+1 < ((d.cars.getD c Chg.car0).to_:Int):=z
  have e:=Chg.z5r hc hL hF (.inl (by lia))
  rw [e] at k0
  exact ⟨_,rfl,k0 H1 S1⟩
inductive zUs (t:Adr) (a:V) (b:V) (H:Hp) (Q:VK):Prop
 | mk (q:Addr) (x:Bytes) (S:List Car) (_:zVb a H x) (_:b=.ref q) (_:zZB t H q S) (_:S.length≤100) (_:RI t H Q (S.findIdx (fun (c:Car)=>c.name == x):Nat)):zUs t a b H Q
theorem zSB (T:Txt K mg t):Own P w K mg base 1 "place_of" ["name", "cars"] (Sp2 (zUs t)):=by
 refine own2 T.d_place_of zUp fun a b H Q h f cdv A outer s E hr=>?_
 obtain ⟨q,x,S,⟨p,rfl,hp,hl⟩,rfl,⟨as,h1,h2⟩,hS,k0⟩:=h
 refine ⟨_,(zW (kQ PassesOwn.never rfl (wO (by rfl) T.b_range (zZ (y8 K T.b_len (zZ (pv 1) zY)) zY)) (yZ (i:=2) zUp.nd)
   (zV (yO (z8 (z4h hr.units) (zR K (yP (z4 K) (pv 1) (pv 2) (fun _ _=>rfl)) rfl) (pv 0) (z9 _)) (zV (zQ (pv 2))) z7)))
   (zV (zQ (y8 K T.b_len (zZ (pv 1) zY))))),?_⟩
 refine ⟨_,rfl,lenR h1 ⟨_,rfl,by have:=h2.len;lia,by have:=h2.len;lia,k7 (Ts:=Ts t) (H1:=H) (y6.rng _) (fun i σ H'=>Sm (Ts t) H H'∧(∀j,j < i→(S.getD j Chg.car0).name≠x)∧∃o2,σ=[some (.ref p),some (.ref q),o2]) (fun _ _ _ h=>h.1) ⟨Sm.refl _,(fun j hj=>absurd hj (Nat.not_lt_zero j)),none,rfl⟩ ?_ ?_⟩⟩
 ·rintro i y σ H1 H2 hi ⟨S1,ok,o2,rfl⟩ S2 rfl
  rw [Int.toNat_natCast] at hi
  have S12:=S1.trans S2
  have hiS:i < S.length:=by rw [←h2.len];exact hi
  have ca:=(h2.get (zge hi) (by rw [zge hiS,←Chg.vX hiS (d:=Chg.car0)]:S[i]?=some (S.getD i Chg.car0))).sm (t:=t) S12
  refine ⟨_,rfl,_,rfl,jQ (h1.sm S12) (zge hi) (zTz T ca fun nm hnm=>⟨_,rfl,eqB hnm (hp.sm S12) ⟨_,rfl,itP (fun z=>?_) fun z=>?_⟩⟩)⟩
  ·have e:S.findIdx (fun (c:Car)=>c.name == x)=i:=by
    rw [List.findIdx_eq hiS]
    refine ⟨?_,fun j hj=>?_⟩
    ·rw [Chg.vX hiS] at z
     exact beq_iff_eq.mpr z
    ·have:=ok j hj
     rw [Chg.vX (by lia)] at this
     exact beq_eq_false_iff_ne.mpr this
   rw [e] at k0
   exact ⟨_,rfl,k0 H2 S12⟩
  ·refine ⟨S12,fun j hj=>?_,_,rfl⟩
   rcases Nat.lt_or_ge j i with y|y
   ·exact ok j y
   ·have:j=i:=by lia
    rw [this]
    exact z
 ·rintro σ H1 ⟨S1,ok,o2,rfl⟩
  rw [Int.toNat_natCast,h2.len] at ok
  have e:S.findIdx (fun (c:Car)=>c.name == x)=S.length:=by
   rw [List.findIdx_eq_length]
   intro c hc
   obtain ⟨j,hj,rfl⟩:=List.mem_iff_getElem.mp hc
   have:=ok j hj
   rw [Chg.vX hj] at this
   exact beq_eq_false_iff_ne.mpr this
  rw [e,←h2.len] at k0
  exact ⟨_,rfl,lenR (h1.sm S1) (k0 H1 S1)⟩
end
open PySem PySem.Spec PyProof.Rows L2
open GarText (Bytes)
open GarPlug (Car Day)
open GarLoad
open Chg (canTake xY qZ uS zZC tk yT pick excL lowL x9 xW without kW zX7)
theorem z31 {K:Fg}{H:Hp}{a:Addr}{Q:VK}{as:List Addr}{z:Int}{k:Nat}{b:Addr} (h:RefL H a as) (ez:z=(k:Int)) (e:as[k]?=some b) (q:Q (.ref b) H):rIxL K (.ref a) (.int z) H Q:=by
 rw [ez]
 exact jQ h e q
section
variable {P:Program}{w:World}{K:Fg}{mg:Str→Option Value}{base:Heap}{t:Adr}
inductive zXw (t:Adr) (a:V) (H:Hp) (Q:VK):Prop
 | mk (p:Addr) (d:Day) (_:a=.ref p) (_:DayR t H p d) (_:DayB d) (_:TabsOk (Ts t) H) (_:RI t H Q (refused d:Nat)):zXw t a H Q
theorem zUb (T:TxtB K mg base t):Own P w K mg base 12 "refused_set" ["day"] (Sp1 (zXw t)):=by
 refine z4j T.c_refused_set uR fun a H Q h f A outer s E hr=>?_
 obtain ⟨p,d,rfl,hd,B,tab,k0⟩:=h
 refine ⟨_,(zW (yY (i:=1) uR.nd (zS (vP T.toTxt) hr.o (zZ (zR K (pv 0) rfl) zY)))
   (zW (yY (i:=2) uR.nd (z2y (k:=2) (Ts:=Ts t) (L:=L2_ t) (c:=t.c2) (p:="number") (x:="sets") (ix:=1) ⟨rfl,one2 T.pp,T.l2,rfl,z5C,rfl,rfl,⟨_,rfl,rfl⟩,rfl,rfl,z4v,fun _ _ _ _ _=>rfl⟩ hr.o (fun _ _ _ _ _ _ _ hr2=>(zR4 (zZ (y8 K T.b_len (zZ (yP (z4 K) (pv 1) (pv 0) (fun _ _=>rfl)) zY)) (zZ (zS (zZt T.toTxt) ((hr2.deeper _).mono (by decide)) (zZ (yP (z4 K) (pv 1) (pv 0) (fun _ _=>rfl)) zY)) (zZ (pv 0) zY))))) (by rfl) T.b_sorted (zZ (jS zQk (by rfl) T.b_range zUk (zZ (y8 K T.b_len (zZ (pv 1) zY)) zY)) zY)))
   (zW (yY (i:=3) uR.nd z3)
   (zW (zTU PassesOwn.never (zZD (k5 (zS (j7 T.toTxt) hr.o (zZ (yP (z4 K) (pv 1) (yQ zZL (yQ zZL (y8 K T.b_len (zZ (pv 1) zY)) z3) (yP (z4 K) (pv 2) (pv 3) (fun _ _=>rfl))) (fun _ _=>rfl)) (zZ (zR K (pv 0) rfl) zY)))))
   (zV (yY (i:=3) uR.nd (yQ vR (pv 3) z3))))
   (zV (zQ (yP (z4 K) (pv 2) (pv 3) (fun _ _=>rfl)))))))),?_⟩
 obtain ⟨dx,nm,sp,pr,cs,as,h1,h2,h3,h4,h5,h6⟩:=xQ hd
 have b2:=B.hi
 have b5:=B.cars
 have las:=h6.len
 refine ⟨_,rfl,dc T.toTxt h1 ⟨_,rfl,cs,as,rfl,h5,by lia,fun D H1 S1 nD hN=>?_⟩⟩
 obtain ⟨ps,g1,g2⟩:=hN.a
 have h61:=wZ h6 S1
 have hlen:ps.length=2 ^ d.cars.length:=by rw [g2.len,Chg.zRD,las]
 have p64:2 ^ d.cars.length≤64:=zSq b5
 have p0:=Nat.two_pow_pos d.cars.length
 have setAt:∀k (hk:k < ps.length),zZB t H1 ps[k] (pick d.cars k):=fun k hk=>by
  obtain ⟨q,e,_,r⟩:=zTX (x:=.ref ps[k]) g2 h61 (j:=k) (by rw [zgm,zge hk];rfl)
  cases e
  exact r
 refine ⟨_,rfl,lenR g1 ⟨ps.length,rfl,fun r hr0=>?_⟩⟩
 have SR:Sm (Ts t) H1 (upd H1 r (.rng 0 ps.length)):=Sm.new hr0
 refine ⟨r,ps.length,.ref D,fun k=>[((pick d.cars k).length:Int),((xY (pick d.cars k):Nat):Int),(k:Int)],rfl,zX,by lia,(SR.ok (S1.ok tab)) _ (zmc _ (List.mem_cons_self ..)),rfl,(fun k hk z=>by cases z),fun k H2 hk S2=>?_,fun ks Rk H3 R S3 nRk hRk=>?_⟩
 ·have S12:=SR.trans S2
  have CL:=(setAt k hk).sm (t:=t) S12
  have lp:=zYJ d.cars k
  refine ⟨_,rfl,_,rfl,jQ (g1.sm S12) (zge hk) (lenC CL ⟨_,rfl,_,rfl,jQ (g1.sm S12) (zge hk) ⟨_,rfl,_,_,rfl,CL,by lia,fun H4 S4=>⟨_,rfl,sz rfl,fun a ha=>⟨S4.add ha,a,rfl,zX⟩⟩⟩⟩)⟩
 ·have S13:=SR.trans S3
  have S03:=S1.trans S13
  have hRk:IL H3 Rk (zn ks):=by
   show H3 Rk=_
   rw [hRk,z1P,List.map_map]
   rfl
  have hm:∀x,x∈ks↔x < 2 ^ d.cars.length:=fun x=>by rw [R.perm.mem_iff,List.mem_range,hlen]
  have kl:ks.length=2 ^ d.cars.length:=by rw [R.perm.length_eq,List.length_range,hlen]
  have ord:ks.Pairwise fun a b=>lessSet d a b=true:=by
   have nd:ks.Nodup:=R.perm.nodup_iff.mpr List.nodup_range
   refine (R.ord.and nd).imp fun {i j} h=>?_
   obtain ⟨h,hne⟩:=h
   rw [if_neg (by decide),zVU,zVU,zVU,z2N,Chg.z5i,Chg.z5i,(Chg.zWo d.cars i).wants (sup:=d.supply),(Chg.zWo d.cars j).wants (sup:=d.supply)] at h
   rw [Chg.zTQ]
   show count d.cars.length i < count d.cars.length j∨(count d.cars.length i=count d.cars.length j∧(wants (tk d.cars d.supply) i < wants (tk d.cars d.supply) j∨(wants (tk d.cars d.supply) i=wants (tk d.cars d.supply) j∧i < j)))
   simp only [Bool.or_eq_false_iff,Bool.and_eq_false_iff,Bool.not_eq_false',decide_eq_false_iff_not,zde,Bool.and_false,Bool.or_false] at h
   lia
  obtain ⟨j0,hj0⟩:=List.getElem?_of_mem ((hm (2 ^ d.cars.length-1)).mpr (by lia))
  refine ⟨fun m σ H'=>Sm (Ts t) H3 H'∧∃j:Nat,σ=[some (.ref p),some (.ref D),some (.ref Rk),some (.int j)]∧m=j0-j∧j≤j0∧∀i x,i < j→ks[i]?=some x→¬feasible (taskOf (kept d x))=true,⟨_,Sm.refl _,0,rfl,rfl,Nat.zero_le _,fun i x hi=>absurd hi (Nat.not_lt_zero i)⟩,?_⟩
  rintro m σ H4 ⟨S4,j,rfl,rfl,hj,ok⟩
  have j0l:=(List.getElem?_eq_some_iff.mp hj0).1
  have hjl:j < ks.length:=by lia
  have S04:=S03.trans S4
  have S14:=S13.trans S4
  have xlt:ks.getD j 0 < 2 ^ d.cars.length:=by
   rw [Chg.vX hjl]
   exact (hm _).mp (List.getElem_mem hjl)
  generalize hx:ks.getD j 0=x at *
  have ex:ks[j]?=some x:=by
   rw [zge hjl,←hx,Chg.vX hjl]
  have hk:2 ^ d.cars.length-1-x < ps.length:=by lia
  have CL:=(setAt _ hk).sm (t:=t) S14
  have lp:=zYJ d.cars (2 ^ d.cars.length-1-x)
  have efe:feasible (tk (pick d.cars (2 ^ d.cars.length-1-x)) d.supply)=feasible (taskOf (kept d x)):=by
   rw [Chg.zWh,Chg.z1f d xlt]
   rfl
  refine ⟨_,rfl,_,rfl,lenR (g1.sm S14) ⟨_,_,rfl,rfl,_,rfl,_,rfl,zYP (hRk.sm S4) hjl ⟨_,_,rfl,rfl,z31 (g1.sm S14) (by rw [hx];show ((ps.length:Nat):Int)-1-(x:Int)=((2 ^ d.cars.length-1-x:Nat):Int);lia) (zge hk) ⟨_,rfl,ds T.toTxt (S04.keep _ _ h1 z0) ⟨_,_,rfl,pick d.cars (2 ^ d.cars.length-1-x),d.supply,⟨_,sp,rfl,rfl,CL,by lia,h3.sm S04,by lia⟩,fun H5 S5=>⟨_,rfl,?_⟩⟩⟩⟩⟩⟩
  rw [efe]
  refine itB (fun z=>?_) fun z=>?_
  ·have z:feasible (taskOf (kept d x))=false:=by simpa using z
   have hne:j≠j0:=fun e=>by
    rw [e,hj0] at ex
    rw [←zsi ex,Chg.z5g] at z
    cases z
   refine ⟨fun σ' H'=>Sm (Ts t) H3 H'∧σ'=[some (.ref p),some (.ref D),some (.ref Rk),some (.int ((j+1:Nat):Int))],fun σ' H' q=>⟨j0-(j+1),by lia,q.1,j+1,q.2,rfl,by lia,fun i y hi hy=>?_⟩,?_⟩
   ·rcases Nat.lt_or_ge i j with u|u
    ·exact ok i y u hy
    ·have:i=j:=by lia
     rw [this,ex] at hy
     rw [←zsi hy,z]
     decide
   ·exact ⟨_,rfl,_,_,rfl,rfl,S4.trans S5,rfl⟩
  ·have z:feasible (taskOf (kept d x))=true:=by simpa using z
   have e:=Chg.z36 hm ord ex z ok
   rw [e] at k0
   refine ⟨_,rfl,_,rfl,zYP ((hRk.sm S4).sm S5) hjl ?_⟩
   rw [hx]
   exact k0 H5 (S04.trans S5)
end
open PySem PySem.Spec PyProof.Rows L2
open GarText (Bytes)
open GarPlug (Car Day)
open GarLoad
open WqgarjSpec (told says no counted)
open Chg (canTake xY qZ uS zZC tk yT pick excL lowL x9 xW without kW zX7)
theorem catI {H:Hp}{a b:Addr}{ns ms:List Int}{Q:VK} (h:IL H a ns) (h2:IL H b ms) (hl:ns.length+ms.length≤100000) (k:∀p,H p=none→Q (.ref p) (upd H p (.lst ((ns++ms).map V.int)))):rCat (.ref a) (.ref b) H Q:=
 ⟨a,b,_,_,rfl,rfl,h,h2,by rw [zlm,zlm,sizeLine_eq];lia,fun p hp=>by rw [←List.map_append];exact k p hp⟩
theorem zVk {α:Type} [DecidableEq α]:∀{ks ns:List α},ks.Nodup→(∀k∈ks,k∈ns)→ns.length≤ks.length→ns.Nodup
 | [],ns,_,_,hl=>by
  have:ns=[]:=List.length_eq_zero_iff.mp (Nat.le_zero.mp hl)
  rw [this]
  exact List.nodup_nil
 | k::ks,ns,nd,h,hl=>by
  have hk:=h k (List.mem_cons_self ..)
  rw [List.nodup_cons] at nd
  have sub:∀x∈ks,x∈ns.erase k:=fun x hx=>(List.mem_erase_of_ne fun e=>nd.1 (by rw [←e];exact hx)).mpr (h x (zmc _ hx))
  have le:=List.length_erase_of_mem hk
  have pos:=List.length_pos_of_mem hk
  rw [zlc] at hl
  have ih:=zVk nd.2 sub (by lia)
  have nk:k∉ns.erase k:=fun hk2=>by
   have sub2:∀x∈ks,x∈(ns.erase k).erase k:=fun x hx=>(List.mem_erase_of_ne fun e=>nd.1 (by rw [←e];exact hx)).mpr (sub x hx)
   have:=zWc nd.2 sub2
   have le2:=List.length_erase_of_mem hk2
   have pos2:=List.length_pos_of_mem hk2
   lia
  exact (List.perm_cons_erase hk).nodup_iff.mpr (List.nodup_cons.mpr ⟨nk,ih⟩)
theorem z2s {l:List Nat}:(zn l).Nodup↔l.Nodup:=by
 unfold zn List.Nodup
 rw [List.pairwise_map]
 exact ⟨fun h=>h.imp fun hne e=>hne (by rw [e]),fun h=>h.imp fun hne e=>hne (Int.ofNat.inj e)⟩
section
variable {P:Program}{w:World}{K:Fg}{mg:Str→Option Value}{base:Heap}{t:Adr}
theorem RZ.mk {H H1:Hp}{Q:VK}{ns:List Int}{p:Addr} (k0:RZ t H Q ns) (S:Sm (Ts t) H H1) (hp:H1 p=none):Q (.ref p) (upd H1 p (.lst (ns.map V.int))):=k0 p _ (S.add hp) (S.free hp) zX
inductive zVx (t:Adr) (a:V) (H:Hp) (Q:VK):Prop
 | mk (p:Addr) (d:Day) (_:a=.ref p) (_:DayR t H p d) (_:DayB d) (_:d.text.length≤90000) (_:RZ t H Q (told d .text)):zVx t a H Q
theorem zTx (T:Txt K mg t):Own P w K mg base 4 "tell_text" ["day"] (Sp1 (zVx t)):=by
 refine own1 T.d_tell_text zSr fun a H Q h f cdv A outer s E hr=>?_
 obtain ⟨p,d,rfl,hd,B,hl,k0⟩:=h
 refine ⟨_,(zV (zQ (yQ v5 (yX (zZ z3 zY)) (zS (zRn T) hr.o (zZ (pv 0) zY))))),?_⟩
 refine ⟨sz rfl,fun C hC=>?_⟩
 have SC:Sm (Ts t) H (upd H C (.lst [V.int 0])):=Sm.new hC
 have iC:IL (upd H C (.lst [V.int 0])) C [0]:=zX
 refine ⟨_,rfl,_,rfl,p,d,rfl,hd.sm SC,B,fun D H1 S1 nD hD=>catI (iC.sm S1) hD (by rw [xT];simp only [List.length_singleton];lia) fun R hR=>?_⟩
 have e:told d .text=[0]++zb d.text:=by
  show (0:Int)::(d.text.map UInt8.toNat).map (fun (n:Nat)=>(n:Int))=0::zb d.text
  unfold zb
  rw [List.map_map]
  rfl
 rw [e] at k0
 exact k0.mk (SC.trans S1) hR
theorem z48 (d:Day):decide (V.int ((excess (tk d.cars d.supply) (worst (tk d.cars d.supply)):Nat):Int)=V.int 0)=feasible (taskOf d):=by
 rw [zYj,Bool.eq_iff_iff,Chg.zWh,Chg.z23]
 simp
inductive zVX (t:Adr) (a:V) (H:Hp) (Q:VK):Prop
 | mk (p:Addr) (d:Day) (_:a=.ref p) (_:DayR t H p d) (_:DayB d) (_:RZ t H Q (told d .can)):zVX t a H Q
theorem zSb (T:Txt K mg t):Own P w K mg base 8 "tell_can" ["day"] (Sp1 (zVX t)):=by
 refine own1 T.d_tell_can zVY fun a H Q h f cdv A outer s E hr=>?_
 obtain ⟨p,d,rfl,hd,B,k0⟩:=h
 refine ⟨_,(zW (yY (i:=1) zVY.nd (zS (w4 T) hr.o (zZ (zR K (pv 0) rfl) (zZ (zR K (pv 0) rfl) zY))))
   (zW (yO (z8 u5 (pv 1) z3 (z9 _)) (zV (zQ (yX (zZ z3 (zZ z3 zY))))) z7)
   (zV (zQ (yQ v5 (yX (zZ z3 (zZ z3 (zZ (pv 1) zY)))) (zS (u6 T) hr.o (zZ (zS (zWb T) hr.o (zZ (zR K (pv 0) rfl) (zZ (zR K (pv 0) rfl) zY))) (zZ (y8 K T.b_len (zZ (zR K (pv 0) rfl) zY)) zY)))))))),?_⟩
 obtain ⟨dx,nm,sp,pr,cs,as,h1,h2,h3,h4,h5,h6⟩:=xQ hd
 have b2:=B.hi
 have b5:=B.cars
 have k0:RZ t H Q (if feasible (taskOf d)=true then says [1] else says (0::excess (taskOf d) (worst (taskOf d))::counted d.cars.length (worst (taskOf d)))):=k0
 refine ⟨_,rfl,dc T h1 ⟨_,rfl,ds T h1 ⟨_,_,rfl,d.cars,d.supply,⟨cs,sp,rfl,rfl,⟨as,h5,h6⟩,b5,h3,by lia⟩,fun H1 S1=>?_⟩⟩⟩
 refine ⟨_,rfl,rfl,_,rfl,?_⟩
 rw [z48]
 refine itB (fun z=>?_) fun z=>?_
 ·rw [if_pos z] at k0
  exact ⟨sz rfl,fun D hD=>k0.mk S1 hD⟩
 ·rw [if_neg (by rw [z];decide)] at k0
  refine ⟨_,rfl,sz rfl,fun C hC=>?_⟩
  generalize hx:excess (tk d.cars d.supply) (worst (tk d.cars d.supply))=x
  have SC:Sm (Ts t) H1 (upd H1 C (.lst [V.int 0,V.int 0,V.int (x:Nat)])):=Sm.new hC
  have iC:IL (upd H1 C (.lst [V.int 0,V.int 0,V.int (x:Nat)])) C [0,0,(x:Int)]:=zX
  have S1C:=S1.trans SC
  have g1:=S1C.keep _ _ h1 z0
  refine ⟨_,rfl,dc T g1 ⟨_,rfl,ds T g1 ⟨_,_,rfl,d.cars,d.supply,⟨cs,sp,rfl,rfl,⟨as,h5.sm S1C,wZ h6 S1C⟩,b5,h3.sm S1C,by lia⟩,fun H2 S2=>?_⟩⟩⟩
  have S02:=S1C.trans S2
  refine ⟨_,rfl,dc T (S02.keep _ _ h1 z0) (lenR (h5.sm S02) ⟨_,_,rfl,worst (tk d.cars d.supply),d.cars.length,rfl,by rw [h6.len],by lia,fun M H3 S3 nM hM=>?_⟩)⟩
  have lc:=zYx d.cars.length (worst (tk d.cars d.supply))
  refine catI ((iC.sm (t:=t) S2).sm S3) hM (by rw [z6];simp only [zlc,List.length_nil];lia) fun R hR=>?_
  have e:says (0::excess (taskOf d) (worst (taskOf d))::counted d.cars.length (worst (taskOf d)))=[0,0,(x:Int)]++zn (counted d.cars.length (worst (tk d.cars d.supply))):=by
   rw [←hx]
   rfl
  rw [e] at k0
  exact k0.mk (S02.trans S3) hR
inductive zVj (t:Adr) (a:V) (H:Hp) (Q:VK):Prop
 | mk (p:Addr) (d:Day) (_:a=.ref p) (_:DayR t H p d) (_:DayB d) (_:RZ t H Q (told d .most)):zVj t a H Q
theorem zTE (T:Txt K mg t):Own P w K mg base 7 "tell_most" ["day"] (Sp1 (zVj t)):=by
 refine own1 T.d_tell_most zSe fun a H Q h f cdv A outer s E hr=>?_
 obtain ⟨p,d,rfl,hd,B,k0⟩:=h
 refine ⟨_,(zV (zQ (yX (zZ z3 (zZ (yQ zZL (zS (zZt T) hr.o (zZ (zR K (pv 0) rfl) zY)) (zS (w4 T) hr.o (zZ (zR K (pv 0) rfl) (zZ (zR K (pv 0) rfl) zY)))) zY))))),?_⟩
 obtain ⟨dx,nm,sp,pr,cs,as,h1,h2,h3,h4,h5,h6⟩:=xQ hd
 have b2:=B.hi
 have b5:=B.cars
 refine ⟨_,rfl,dc T h1 ⟨_,rfl,cs,d.cars,rfl,⟨as,h5,h6⟩,by lia,fun H1 S1=>?_⟩⟩
 have g1:=S1.keep _ _ h1 z0
 refine ⟨_,rfl,dc T g1 ⟨_,rfl,ds T g1 ⟨_,_,rfl,d.cars,d.supply,⟨cs,sp,rfl,rfl,⟨as,h5.sm S1,wZ h6 S1⟩,b5,h3.sm S1,by lia⟩,fun H2 S2=>⟨_,_,rfl,rfl,sz rfl,fun D hD=>?_⟩⟩⟩⟩
 have le:=Chg.z24 (tk d.cars d.supply) (worst (tk d.cars d.supply))
 have e:told d .most=[0,((xY d.cars:Nat):Int)-((excess (tk d.cars d.supply) (worst (tk d.cars d.supply)):Nat):Int)]:=by
  show [(0:Int),((mostOf (taskOf d):Nat):Int)]=_
  have:((mostOf (taskOf d):Nat):Int)=((xY d.cars:Nat):Int)-((excess (tk d.cars d.supply) (worst (tk d.cars d.supply)):Nat):Int):=by
   show ((sumOf (tk d.cars d.supply).needs-excess (tk d.cars d.supply) (worst (tk d.cars d.supply)):Nat):Int)=((sumOf (tk d.cars d.supply).needs:Nat):Int)-_
   lia
  rw [this]
 rw [e] at k0
 exact k0.mk (S1.trans S2) hD
abbrev z2k (b:V) (H:Hp) (l:List Nat):Prop:=∃r:Addr,b=.ref r∧IL H r (zn l)∧l.length≤1000
inductive zVi (t:Adr) (a:V) (b:V) (H:Hp) (Q:VK):Prop
 | mk (p:Addr) (d:Day) (l:List Nat) (_:a=.ref p) (_:z2k b H l) (_:l.length≤100) (_:DayR t H p d) (_:DayB d) (_:RZ t H Q (told d (.asks l))):zVi t a b H Q
theorem zTY (T:Txt K mg t):Own P w K mg base 4 "tell_asks" ["day", "row"] (Sp2 (zVi t)):=by
 refine own2 T.d_tell_asks kO fun a b H Q h f cdv A outer s E hr=>?_
 obtain ⟨p,d,l,rfl,⟨r,rfl,hr0,_⟩,ll,hd,B,k0⟩:=h
 refine ⟨_,(zW (yO (k5 (yS (anyK K rfl) (by rfl) T.b_any (by decide +kernel) (zZ (zZf (own:=[("number", 3)]) rfl kO.nd (yV K (pv 1)) (yU rfl) (fun _ _ _ _ _=>(yZ (i:=3) kO.nd)) (fun _ _ _ _ _=>y4) (fun _ _ _ _ _=>(uV zRz (pv 3) (y8 K T.b_len (zZ (zR K (pv 0) rfl) zY)) (z9 _)))) zY))) (zV (zQ (yX (zZ (z5 T.g_NO_SUCH) zY)))) z7)
   (zW (yO (z8 zRp (yS zRt (by rfl) T.b_len (by decide +kernel) (zZ (jS (zS3 rfl) (by rfl) T.b_set (by decide +kernel) (zZ (pv 1) zY)) zY)) (y8 K T.b_len (zZ (pv 1) zY)) (z9 _)) (zV (zQ (yX (zZ (z5 T.g_OUT_OF_BOUNDS) zY)))) z7)
   (zW (zZH (i:=2) (own:=[("number", 3)]) rfl kO.nd rfl rfl (zYW rfl rfl rfl rfl) (yV K (pv 1)) (yU rfl) (fun _ _ _ _ _=>(yZ (i:=3) kO.nd)) (fun _ _ _ _ _=>y4) (fun _ _ _ _ _=>(yP (z4 K) (zR K (pv 0) rfl) (pv 3) (fun _ _=>rfl))))
   (zV (zQ (yX (zZ z3 (zZ (zS (zZt T) hr.o (zZ (pv 2) zY)) (zZ (zS (zVQ T) hr.o (zZ (pv 2) (zZ (zR K (pv 0) rfl) zY))) zY))))))))),?_⟩
 obtain ⟨dx,nm,sp,pr,cs,as,h1,h2,h3,h4,h5,h6⟩:=xQ hd
 have b2:=B.hi
 have b5:=B.cars
 have las:=h6.len
 have ln:((zn l).map V.int).length=l.length:=by rw [zlm,z6]
 have k0:RZ t H Q (if l.all (fun (c:Nat)=>decide (c < d.cars.length))=false then no 4 else if ¬l.Nodup then no 1 else says [wants (taskOf d) (WqgarjSpec.setOf l),room (taskOf d) (WqgarjSpec.setOf l)]):=k0
 refine ⟨_,rfl,r,rfl,⟨_,SqL.of hr0⟩,fun D nD=>zXJ (Ts:=Ts t) (y6.seq (SqL.of hr0)) nD (by rw [ln];lia) (fun j=>decide (d.cars.length≤l.getD j 0)) (fun j v H' Q' hj S' it k'=>?_) fun H1 S1 hD=>?_⟩
 ·obtain ⟨hj2,rfl⟩:=int_at it
  refine ⟨rfl,_,rfl,_,rfl,dc T (S'.keep _ _ h1 z0) (lenR (h5.sm S') ⟨_,_,rfl,rfl,?_⟩)⟩
  have e:decide ((as.length:Int)≤((l.getD j 0:Nat):Int))=decide (d.cars.length≤l.getD j 0):=by
   rw [Bool.eq_iff_iff,zde,zde]
   lia
  show Q' (.bl (decide ((as.length:Int)≤((l.getD j 0:Nat):Int)))) H'
  rw [e]
  exact k' H' (Sm.refl _)
 ·rw [ln] at hD
  refine anyB hD ⟨_,rfl,?_⟩
  rw [z1h l 0 fun c=>decide (d.cars.length≤c)]
  have ea:(l.any fun c=>decide (d.cars.length≤c))=!l.all (fun (c:Nat)=>decide (c < d.cars.length)):=by
   rw [List.not_all_eq_any_not]
   congr 1
   funext c
   rw [Bool.eq_iff_iff]
   simp
  rw [ea]
  refine itB (fun z=>?_) fun z=>?_
  ·rw [if_pos (by simpa using z)] at k0
   exact ⟨sz rfl,fun C hC=>k0.mk S1 hC⟩
  ·have za:l.all (fun (c:Nat)=>decide (c < d.cars.length))=true:=by simpa using z
   rw [if_neg (by rw [za];decide)] at k0
   have lt:∀c∈l,c < d.cars.length:=fun c hc=>of_decide_eq_true (List.all_eq_true.mp za c hc)
   refine ⟨_,rfl,r,zn l,rfl,SqL.of (hr0.sm S1),by rw [z6];lia,fun E ks O hE=>⟨E,ks,rfl,zX,?_⟩⟩
   have SE:∀o,Sm (Ts t) H (upd H1 E o):=fun o=>S1.add hE
   refine ⟨_,rfl,lenI (hr0.sm (SE _)) ⟨_,_,rfl,rfl,_,rfl,?_⟩⟩
   have en:decide ((ks.length:Int) < ((zn l).length:Int))=decide (¬l.Nodup):=by
    rw [Bool.eq_iff_iff,zde,zde,←z2s]
    constructor
    ·intro h hn
     have:=zWc hn fun k hk=>(O.2 k).mpr hk
     lia
    ·intro h
     rcases Nat.lt_or_ge ks.length (zn l).length with y|y
     ·lia
     ·exact absurd (zVk O.1 (fun k hk=>(O.2 k).mp hk) y) h
   show if decide ((ks.length:Int) < ((zn l).length:Int))=true then _ else _
   rw [en]
   refine itP (fun z=>?_) fun z=>?_
   ·rw [if_pos z] at k0
    exact ⟨sz rfl,fun C hC=>k0.mk (SE _) hC⟩
   ·have nd:l.Nodup:=Classical.byContradiction z
    rw [if_neg z] at k0
    refine ⟨_,rfl,r,rfl,⟨_,SqL.of (hr0.sm (SE _))⟩,fun G nG=>zUc (Ts:=Ts t) (y6.seq (SqL.of (hr0.sm (SE _)))) nG (by rw [ln];lia) (fun j y H'=>∃c,l[j]?=some c∧y=.ref (as.getD c 0)) (fun _ _ _ _ _ h=>h) (fun _ _ _ _ h=>h) (fun j y H2 Q' hj S2 _ it k=>?_) fun ys H2 S2 hys hR hG=>?_⟩
    ·obtain ⟨hj2,rfl⟩:=int_at it
     have S02:=(SE _).trans S2
     have cl:=lt _ (List.getElem_mem hj2)
     rw [←Chg.vX hj2 (d:=0)] at cl
     have ca:l.getD j 0 < as.length:=by lia
     refine ⟨rfl,_,rfl,dc T (S02.keep _ _ h1 z0) ⟨_,rfl,jQ (h5.sm S02) (zge ca) (k _ _ (Sm.refl _) ⟨l.getD j 0,?_,?_⟩)⟩⟩
     ·rw [zge hj2,←Chg.vX hj2 (d:=0)]
     ·rw [Chg.vX ca]
    ·have S02:=(SE _).trans S2
     rw [ln] at hys
     have ey:ys=(l.map fun c=>as.getD c 0).map V.ref:=by
      refine List.ext_getElem? fun j=>?_
      rw [zgm,zgm]
      by_cases hj:j < l.length
      ·obtain ⟨c,e1,e2⟩:=hR j ys[j] (zge (by lia))
       rw [zge (by lia:j < ys.length),e2,e1]
       rfl
      ·rw [List.getElem?_eq_none (by lia),List.getElem?_eq_none (by lia)]
       rfl
     subst ey
     have CL:zZB t H2 G (l.map fun c=>d.cars.getD c Chg.car0):=by
      refine ⟨_,hG,All2.of (by rw [zlm,zlm]) fun j x y ex ey=>?_⟩
      rw [zgm] at ex ey
      cases e:l[j]? with
      | none=>
       rw [e] at ex
       cases ex
      | some c=>
       rw [e] at ex ey
       have cl:=lt c (List.mem_of_getElem? e)
       have ca:c < as.length:=by lia
       rw [←zsi ex,←zsi ey]
       show zZe t H2 (as.getD c 0) (d.cars.getD c Chg.car0)
       rw [Chg.vX ca,Chg.vX cl]
       exact (h6.get (zge ca) (zge cl)).sm S02
     have lC:(l.map fun c=>d.cars.getD c Chg.car0).length≤100:=by
      rw [zlm]
      exact ll
     have sub:=Chg.z3o (cars:=d.cars) nd lt
     refine ⟨_,rfl,_,rfl,G,_,rfl,CL,lC,fun H3 S3=>?_⟩
     have S03:=S02.trans S3
     refine ⟨_,rfl,_,rfl,ds T (S03.keep _ _ h1 z0) ⟨_,_,rfl,G,sp,_,d.supply,rfl,rfl,CL.sm S3,lC,h3.sm S03,by lia,fun H4 S4=>⟨sz rfl,fun C hC=>?_⟩⟩⟩
     have e:says [wants (taskOf d) (WqgarjSpec.setOf l),room (taskOf d) (WqgarjSpec.setOf l)]=[0,((xY (l.map fun c=>d.cars.getD c Chg.car0):Nat):Int),((uS (l.map fun c=>d.cars.getD c Chg.car0) d.supply:Nat):Int)]:=by
      rw [sub.wants (sup:=d.supply),sub.room]
      rfl
     rw [e] at k0
     exact k0.mk (S03.trans S4) hC
inductive zXy (t:Adr) (a:V) (b:V) (H:Hp) (Q:VK):Prop
 | mk (p:Addr) (d:Day) (l:List Nat) (_:a=.ref p) (_:z2k b H l) (_:l.length≤100) (_:DayR t H p d) (_:DayB d) (_:RZ t H Q (told d (.proves l))):zXy t a b H Q
theorem zVR (T:Txt K mg t):Own P w K mg base 6 "tell_proves" ["day", "row"] (Sp2 (zXy t)):=by
 refine own2 T.d_tell_proves vZ fun a b H Q h f cdv A outer s E hr=>?_
 obtain ⟨p,d,l,rfl,⟨r,rfl,hr0,_⟩,ll,hd,B,k0⟩:=h
 refine ⟨_,(zW (yY (i:=2) vZ.nd (zS (vP T) hr.o (zZ (zR K (pv 0) rfl) zY)))
   (zW (yO (z8 zRb (y8 K T.b_len (zZ (pv 1) zY)) (y8 K T.b_len (zZ (zS (uU T) hr.o (zZ (zR K (pv 0) rfl) zY)) zY)) (z9 _)) (zV (zQ (yX (zZ (z5 T.g_OUT_OF_BOUNDS) zY)))) z7)
   (zW (yO (k5 (yS (anyK K rfl) (by rfl) T.b_any (by decide +kernel) (zZ (zZf (own:=[("number", 3)]) rfl vZ.nd (yV K (pv 1)) (yU rfl) (fun _ _ _ _ _=>(yZ (i:=3) vZ.nd)) (fun _ _ _ _ _=>y4) (fun _ _ _ _ _=>(uV zRz (pv 3) (y8 K T.b_len (zZ (pv 2) zY)) (z9 _)))) zY))) (zV (zQ (yX (zZ (z5 T.g_OUT_OF_BOUNDS) zY)))) z7)
   (zV (zQ (yX (zZ z3 (zZ (zS (zV5 T) hr.o (zZ (pv 0) (zZ (zZf (own:=[("number", 3)]) rfl vZ.nd (yV K (pv 1)) (yU rfl) (fun _ _ _ _ _=>(yZ (i:=3) vZ.nd)) (fun _ _ _ _ _=>y4) (fun _ _ _ _ _=>(yP (z4 K) (pv 2) (pv 3) (fun _ _=>rfl)))) zY))) zY)))))))),?_⟩
 obtain ⟨dx,nm,sp,pr,cs,as,h1,h2,h3,h4,h5,h6⟩:=xQ hd
 have b2:=B.hi
 have b4:=B.pr
 have b5:=B.cars
 have las:=h6.len
 have ln:((zn l).map V.int).length=l.length:=by rw [zlm,z6]
 have k0:RZ t H Q (if l.length≠(levels d.price).length-1∨(l.any fun (a:Nat)=>decide (2 ^ d.cars.length≤a))=true then no 1 else says [GarLoad.bound d l]):=k0
 refine ⟨_,rfl,dc T h1 ⟨_,rfl,cs,as,rfl,h5,by lia,fun D H1 S1 nD hN=>?_⟩⟩
 obtain ⟨ps,g1,g2⟩:=hN.a
 have h61:=wZ h6 S1
 have hlen:ps.length=2 ^ d.cars.length:=by rw [g2.len,Chg.zRD,las]
 refine ⟨_,rfl,lenI (hr0.sm S1) ⟨_,rfl,dp T (S1.keep _ _ h1 z0) ⟨_,rfl,pr,d.price,rfl,h4.sm S1,by lia,fun L H2 S2 nL hL=>lenI hL ⟨rfl,_,rfl,itB (fun z=>?_) fun z=>?_⟩⟩⟩⟩
 ·have z:((zn l).length:Int)≠((zn ((levels d.price).drop 1)).length:Int):=nEq z
  rw [z6,z6,List.length_drop] at z
  rw [if_pos (.inl (by lia))] at k0
  exact ⟨sz rfl,fun C hC=>k0.mk (S1.trans S2) hC⟩
 ·have z:((zn l).length:Int)=((zn ((levels d.price).drop 1)).length:Int):=nNe z
  rw [z6,z6,List.length_drop] at z
  have S02:=S1.trans S2
  have hr2:=hr0.sm (t:=t) S02
  refine ⟨_,rfl,r,rfl,⟨_,SqL.of hr2⟩,fun E nE=>zXJ (Ts:=Ts t) (y6.seq (SqL.of hr2)) nE (by rw [ln];lia) (fun j=>decide (2 ^ d.cars.length≤l.getD j 0)) (fun j v H' Q' hj S' it k'=>?_) fun H3 S3 hE=>?_⟩
  ·obtain ⟨hj2,rfl⟩:=int_at it
   refine ⟨rfl,_,rfl,_,rfl,lenR (g1.sm (S2.trans S')) ⟨_,_,rfl,rfl,?_⟩⟩
   have e:decide ((ps.length:Int)≤((l.getD j 0:Nat):Int))=decide (2 ^ d.cars.length≤l.getD j 0):=by
    rw [Bool.eq_iff_iff,zde,zde]
    lia
   show Q' (.bl (decide ((ps.length:Int)≤((l.getD j 0:Nat):Int)))) H'
   rw [e]
   exact k' H' (Sm.refl _)
  ·rw [ln] at hE
   refine anyB hE ⟨_,rfl,?_⟩
   rw [z1h l 0 fun c=>decide (2 ^ d.cars.length≤c)]
   have S03:=S02.trans S3
   refine itB (fun y=>?_) fun y=>?_
   ·rw [if_pos (.inr y)] at k0
    exact ⟨sz rfl,fun C hC=>k0.mk S03 hC⟩
   ·rw [if_neg (by
     rintro (u|u)
     ·exact u (by lia)
     ·rw [y] at u
      cases u)] at k0
    have lt:∀c∈l,c < 2 ^ d.cars.length:=fun c hc=>by
     have:=List.any_eq_false.mp y c hc
     simp at this
     exact this
    have hr3:=hr0.sm (t:=t) S03
    have S13:=S2.trans S3
    have g13:=g1.sm (t:=t) S13
    refine ⟨_,rfl,_,rfl,r,rfl,⟨_,SqL.of hr3⟩,fun G nG=>zUc (Ts:=Ts t) (y6.seq (SqL.of hr3)) nG (by rw [ln];lia) (fun j y H'=>∃c,l[j]?=some c∧y=.ref (ps.getD c 0)) (fun _ _ _ _ _ h=>h) (fun _ _ _ _ h=>h) (fun j y H4 Q' hj S4 _ it k=>?_) fun ys H4 S4 hys hR hG=>?_⟩
    ·obtain ⟨hj2,rfl⟩:=int_at it
     have cl:=lt _ (List.getElem_mem hj2)
     rw [←Chg.vX hj2 (d:=0)] at cl
     have ca:l.getD j 0 < ps.length:=by lia
     refine ⟨rfl,_,rfl,_,rfl,jQ (g13.sm S4) (zge ca) (k _ _ (Sm.refl _) ⟨l.getD j 0,?_,?_⟩)⟩
     ·rw [zge hj2,←Chg.vX hj2 (d:=0)]
     ·rw [Chg.vX ca]
    ·have S04:=S03.trans S4
     rw [ln] at hys
     have ey:ys=(l.map fun c=>ps.getD c 0).map V.ref:=by
      refine List.ext_getElem? fun j=>?_
      rw [zgm,zgm]
      by_cases hj:j < l.length
      ·obtain ⟨c,e1,e2⟩:=hR j ys[j] (zge (by lia))
       rw [zge (by lia:j < ys.length),e2,e1]
       rfl
      ·rw [List.getElem?_eq_none (by lia),List.getElem?_eq_none (by lia)]
       rfl
     subst ey
     refine ⟨_,_,rfl,p,G,d,_,l,rfl,rfl,hd.sm S04,B,hG,?_,by lia,fun H5 S5=>⟨sz rfl,fun C hC=>k0.mk (S04.trans S5) hC⟩⟩
     refine All2.of (by rw [zlm]) fun j x n ex en=>?_
     rw [zgm,en] at ex
     rw [←zsi ex]
     show zZB t H4 (ps.getD n 0) (pick d.cars n)
     have cl:=lt n (List.mem_of_getElem? en)
     have ca:n < ps.length:=by lia
     obtain ⟨q,e,_,rr⟩:=zTX (x:=.ref ps[n]) g2 h61 (j:=n) (by rw [zgm,zge ca];rfl)
     cases e
     rw [Chg.vX ca]
     exact rr.sm (S13.trans S4)
inductive zWz (t:Adr) (a:V) (b:V) (H:Hp) (Q:VK):Prop
 | mk (p:Addr) (d:Day) (l:List Nat) (_:a=.ref p) (_:z2k b H l) (_:DayR t H p d) (_:DayB d) (_:RZ t H Q (told d (.judge l))):zWz t a b H Q
theorem zU0 (T:Txt K mg t):Own P w K mg base 4 "tell_judge" ["day", "row"] (Sp2 (zWz t)):=by
 refine own2 T.d_tell_judge zZi fun a b H Q h f cdv A outer s E hr=>?_
 obtain ⟨p,d,l,rfl,⟨r,rfl,hr0,ll⟩,hd,B,k0⟩:=h
 refine ⟨_,(zW (yY (i:=2) zZi.nd (y8 K T.b_len (zZ (zR K (pv 0) rfl) zY)))
   (zW (yO (z8 zRb (y8 K T.b_len (zZ (pv 1) zY)) (yQ zUz (pv 2) (y8 K T.b_len (zZ (zR K (pv 0) rfl) zY))) (z9 _)) (zV (zQ (yX (zZ (z5 T.g_OUT_OF_BOUNDS) zY)))) z7)
   (zW (yY (i:=3) zZi.nd (zS (zUM T) hr.o (zZ (pv 1) (zZ (pv 0) zY))))
   (zW (yY (i:=4) zZi.nd (zS (zSK T) hr.o (zZ (pv 3) (zZ (pv 0) zY))))
   (zW (yO (z8 zT1 (y8 K T.b_len (zZ (pv 4) zY)) z3 (z9 _)) (zV (zQ (yQ v5 (yX (zZ z3 (zZ z3 zY))) (pv 4)))) z7)
   (zV (zQ (yX (zZ z3 (zZ z3 (zZ (zS (zXK T) hr.o (zZ (zS (zVp T) hr.o (zZ (pv 3) (zZ (pv 2) zY))) (zZ (zR K (pv 0) rfl) zY))) zY))))))))))),?_⟩
 obtain ⟨dx,nm,sp,pr,cs,as,h1,h2,h3,h4,h5,h6⟩:=xQ hd
 have b2:=B.hi
 have b4:=B.pr
 have b5:=B.cars
 have las:=h6.len
 have k0:RZ t H Q (if l.length≠d.cars.length * d.slots then no 1 else match wrong d l with
  | none=>says [0,costOf d.price ((List.range d.slots).map (ofSlot d.slots d.cars.length l))]
  | some x=>says [1,x.1,x.2.1,x.2.2]):=k0
 have small:∀z:Int,0≤z→z≤1000→-(2 ^ 64) < z∧z < 2 ^ 64:=fun z h1 h2=>⟨Int.lt_of_lt_of_le (by decide) h1,Int.lt_of_le_of_lt h2 (by decide)⟩
 refine ⟨_,rfl,ds T h1 (lenI h3 ?_)⟩
 refine ⟨_,rfl,lenI hr0 ⟨_,rfl,_,rfl,dc T h1 (lenR h5 ⟨_,_,rfl,rfl,.inl (small _ (by lia) (by rw [z6];lia)),rfl,_,rfl,itB (fun z=>?_) fun z=>?_⟩)⟩⟩
 ·have z:((zn l).length:Int)≠((zn d.supply).length:Int) * (as.length:Int):=nEq z
  rw [z6,z6,las,←Int.natCast_mul] at z
  rw [if_pos (by
   intro e
   apply z
   rw [e,Nat.mul_comm]
   rfl)] at k0
  exact ⟨sz rfl,fun C hC=>k0.mk (Sm.refl _) hC⟩
 ·have z:((zn l).length:Int)=((zn d.supply).length:Int) * (as.length:Int):=nNe z
  rw [z6,z6,las,←Int.natCast_mul] at z
  have lp:l.length=d.supply.length * d.cars.length:=Int.ofNat.inj z
  rw [if_neg (by
   intro e
   apply e
   rw [lp,Nat.mul_comm]
   rfl)] at k0
  refine ⟨_,rfl,_,rfl,_,_,rfl,r,p,l,d,rfl,rfl,hr0,hd,B,lp,fun R H1 S1 nR hR=>?_⟩
  refine ⟨_,rfl,_,rfl,_,_,rfl,l,d,⟨R,p,H,rfl,rfl,hR,hd.sm S1,B,lp⟩,fun W H2 S2 nW hW=>?_⟩
  have S02:=S1.trans S2
  refine ⟨_,rfl,lenI hW ⟨_,_,rfl,rfl,_,rfl,itP (fun y=>?_) fun y=>?_⟩⟩
  ·have y:(0:Int) < ((zn (zUQ d l)).length:Int):=y
   rw [z6] at y
   unfold zUQ at hW y
   cases ew:wrong d l with
   | none=>
    rw [ew] at y
    exact absurd y (by decide)
   | some x=>
    rw [ew] at hW k0
    refine ⟨sz rfl,fun C hC=>?_⟩
    have SC:Sm (Ts t) H2 (upd H2 C (.lst [V.int 0,V.int 1])):=Sm.new hC
    have iC:IL (upd H2 C (.lst [V.int 0,V.int 1])) C [0,1]:=zX
    refine ⟨_,rfl,catI iC (hW.sm (t:=t) SC) (Nat.le_of_ble_eq_true rfl) fun Z hZ=>?_⟩
    exact k0.mk (S02.trans SC) hZ
  ·have y:¬(0:Int) < ((zn (zUQ d l)).length:Int):=y
   rw [z6] at y
   unfold zUQ at y
   cases ew:wrong d l with
   | some x=>
    rw [ew] at y
    exact absurd (by decide:(0:Int) < ((3:Nat):Int)) y
   | none=>
    rw [ew] at k0
    have rl:∀r∈zYh l d.supply.length d.cars.length,r.length=d.supply.length:=fun r hr=>by
     obtain ⟨c,hc,rfl⟩:=List.mem_map.mp hr
     exact zZw lp (List.mem_range.mp hc)
    have os:(List.range d.supply.length).map (fun s=>sumOf ((zYh l d.supply.length d.cars.length).map fun r=>r.getD s 0))=(List.range d.supply.length).map (ofSlot d.supply.length d.cars.length l):=by
     refine List.map_congr_left fun s hs=>?_
     unfold zYh ofSlot
     rw [List.map_map]
     congr 1
     exact List.map_congr_left fun c hc=>zYY lp (List.mem_range.mp hc) (List.mem_range.mp hs)
    refine ⟨_,rfl,_,rfl,_,_,rfl,R,_,d.supply.length,H,rfl,by rw [z6],hR.sm S2,by rw [vO];lia,by lia,rl,fun L H3 S3 nL hL=>?_⟩
    rw [os] at hL
    have S03:=S02.trans S3
    refine ⟨_,rfl,dp T (S03.keep _ _ h1 z0) ⟨_,_,rfl,L,pr,_,_,rfl,rfl,hL,h4.sm S03,by rw [zlm,List.length_range];exact b4,by rw [zlm,List.length_range];lia,B.pri,fun H4 S4=>⟨sz rfl,fun C hC=>k0.mk (S03.trans S4) hC⟩⟩⟩
inductive zXB (t:Adr) (a:V) (H:Hp) (Q:VK):Prop
 | mk (p:Addr) (d:Day) (_:a=.ref p) (_:DayR t H p d) (_:DayB d) (_:TabsOk (Ts t) H) (_:RZ t H Q (told d .refuse)):zXB t a H Q
theorem zVZ (T:TxtB K mg base t):Own P w K mg base 13 "tell_refuse" ["day"] (Sp1 (zXB t)):=by
 refine own1 T.d_tell_refuse zUX fun a H Q h f cdv A outer s E hr=>?_
 obtain ⟨p,d,rfl,hd,B,tab,k0⟩:=h
 refine ⟨_,(zV (zQ (yQ v5 (yX (zZ z3 zY)) (zS (u6 T.toTxt) hr.o (zZ (zS (zUb T) hr.o (zZ (pv 0) zY)) (zZ (y8 K T.b_len (zZ (zR K (pv 0) rfl) zY)) zY)))))),?_⟩
 obtain ⟨dx,nm,sp,pr,cs,as,h1,h2,h3,h4,h5,h6⟩:=xQ hd
 have b5:=B.cars
 refine ⟨sz rfl,fun C hC=>?_⟩
 have SC:Sm (Ts t) H (upd H C (.lst [V.int 0])):=Sm.new hC
 have iC:IL (upd H C (.lst [V.int 0])) C [0]:=zX
 refine ⟨_,rfl,_,rfl,p,d,rfl,hd.sm SC,B,SC.ok tab,fun H1 S1=>?_⟩
 have S01:=SC.trans S1
 refine ⟨_,rfl,dc T.toTxt (S01.keep _ _ h1 z0) (lenR (h5.sm S01) ⟨_,_,rfl,refused d,d.cars.length,rfl,by rw [h6.len],by lia,fun M H2 S2 nM hM=>?_⟩)⟩
 have lc:=zYx d.cars.length (refused d)
 refine catI ((iC.sm (t:=t) S1).sm S2) hM (by rw [z6];simp only [List.length_singleton];lia) fun R hR=>?_
 exact k0.mk (S01.trans S2) hR
end
open PySem PySem.Spec PyProof.Rows L2
open GarText (Bytes lineText)
open GarPlug (Car Day)
open GarLoad
open WqgarjSpec (told says no counted ifCan nowAt)
open Chg (canTake xY qZ uS zZC tk yT pick excL lowL x9 xW without kW zX7)
theorem zRY:∀(l:List (Nat×Nat)) (k:Task),(fillFrom k l).length=l.length
 | [],_=>rfl
 | (c,t)::r,k=>by
  show (mostAt k c t::fillFrom (taken k c t (mostAt k c t)) r).length=_
  rw [zlc,zRY r,zlc]
theorem z2w (d:Day):(planOf d).length=d.cars.length * d.supply.length:=by
 unfold planOf
 rw [zRY,Chg.pairs_len]
 rfl
theorem zTy {α:Type} (f:α→List Nat) (m:Nat):∀l:List α,(∀x∈l,(f x).length≤m)→(l.flatMap f).length≤m * l.length
 | [],_=>Nat.zero_le _
 | x::l,h=>by
  have h1:=h x (List.mem_cons_self ..)
  have h2:=zTy f m l fun y hy=>h y (zmc _ hy)
  rw [List.flatMap_cons,zla,zlc,Nat.mul_succ]
  lia
theorem z3M (d:Day) (k:Nat):(nowAt d k).length≤2 * d.cars.length:=by
 have:=zTy (fun (c:Nat)=>[at_ d.slots (planOf d) c k,(taskOf d).needs.getD c 0-sumOf ((List.range (k+1)).map fun (u:Nat)=>at_ d.slots (planOf d) c u)]) 2 (List.range d.cars.length) fun _ _=>Nat.le_refl _
 rw [List.length_range] at this
 exact this
theorem text_len {d:Day} (B:DayB d):d.text.length≤2000:=by
 have b2:=B.hi
 have b3:=B.name
 have b4:=B.pr
 have b5:=B.cars
 have n12:d.supply.length < 10 ^ 10:=Nat.lt_of_le_of_lt b2 (by decide)
 have l1:=zRw n12
 have supB:∀n∈d.supply,n < 10 ^ 10:=fun n hn=>Nat.lt_of_le_of_lt (B.sup n hn) (by decide)
 have priB:∀n∈d.price,n < 10 ^ 10:=fun n hn=>Nat.lt_of_le_of_lt (B.pri n hn) (by decide)
 have t1:=zXV supB
 have t2:=zXV priB
 unfold Day.text GarPlug.rowLine Day.slots
 rw [zla,zla,zla]
 have a1:=zZK [GarText.ascii "day", d.name,GarText.decimal d.supply.length]
 have a2:=zZK (GarText.ascii "supply" :: d.supply.map GarText.decimal)
 have a3:=zZK (GarText.ascii "price" :: d.price.map GarText.decimal)
 have e1:tot [GarText.ascii "day", d.name,GarText.decimal d.supply.length]=3+1+(d.name.length+1+((GarText.decimal d.supply.length).length+1+0)):=rfl
 have e2:tot (GarText.ascii "supply" :: d.supply.map GarText.decimal)=6+1+tot (d.supply.map GarText.decimal):=rfl
 have e3:tot (GarText.ascii "price" :: d.price.map GarText.decimal)=5+1+tot (d.price.map GarText.decimal):=rfl
 have gen:∀l:List Car,(∀c∈l,CarB c)→(l.flatMap Car.text).length≤100 * l.length:=by
  intro l
  induction l with
  | nil=>exact fun _=>Nat.zero_le _
  | cons c l ih=>
   intro h
   have ih:=ih fun x hx=>h x (zmc _ hx)
   have cB:=h c (List.mem_cons_self ..)
   have c1:=cB.name
   have c2:=cB.from_
   have c3:=cB.to_
   have c4:=cB.need
   have c5:=cB.rate
   have tn:=zXV (l:=[c.from_,c.to_,c.need,c.rate]) (by
    intro n hn
    simp only [List.mem_cons,List.not_mem_nil,or_false] at hn
    have:n≤99:=by lia
    exact Nat.lt_of_le_of_lt this (by decide))
   have a:=zZK (GarText.ascii "car" :: c.name::[c.from_,c.to_,c.need,c.rate].map GarText.decimal)
   have e:tot (GarText.ascii "car" :: c.name::[c.from_,c.to_,c.need,c.rate].map GarText.decimal)=3+1+(c.name.length+1+tot ([c.from_,c.to_,c.need,c.rate].map GarText.decimal)):=rfl
   have eT:lineText (GarText.ascii "car" :: c.name::[c.from_,c.to_,c.need,c.rate].map GarText.decimal)=c.text:=rfl
   rw [eT] at a
   simp only [zlc,List.length_nil] at tn
   rw [List.flatMap_cons,zla,zlc]
   lia
 have g:=gen d.cars B.car
 lia
def marg (d:Day) (cl k:Nat):Nat:=if cl=15 then d.supply.getD k 0-leastAt (taskOf d) k else if cl=16 then costNow d-costNow (giving d k (d.supply.getD k 0+1)) else if cl=17 then moreFor (taskOf d) k else lateness d k
def zYv (d:Day) (cl:Nat):Nat:=if cl=17∨cl=18 then d.cars.length else d.supply.length
def zRh (cl k:Nat):WqgarjSpec.Call:=if cl=15 then .spare k else if cl=16 then .gain k else if cl=17 then .more k else if cl=18 then .late k else .now k
def zXi (cl:Nat):WqgarjSpec.Call:=if cl=9 then .plan else if cl=10 then .loads else .proof
def zRZ (cl:Nat) (l:List Nat):WqgarjSpec.Call:=if cl=5 then .text else if cl=6 then .can else if cl=7 then .asks l else if cl=8 then .most else if cl=12 then .proves l else if cl=13 then .judge l else .refuse
structure DayG (d:Day):Prop extends DayB d where
 s60:∀n∈d.supply,n≤60
section
variable {P:Program}{w:World}{K:Fg}{mg:Str→Option Value}{base:Heap}{t:Adr}
inductive zVs (t:Adr) (a:V) (b:V) (e:V) (H:Hp) (Q:VK):Prop
 | mk (p:Addr) (d:Day) (cl k:Nat) (_:a=.ref p) (_:b=.int cl) (_:e=.int k) (_:DayR t H p d) (_:DayG d) (_:TabsOk (Ts t) H) (_:feasible (tk d.cars d.supply)=true) (_:(cl=15∨cl=16∨cl=17∨cl=18)) (_:k < zYv d cl) (_:RI t H Q (marg d cl k:Nat)):zVs t a b e H Q
theorem zTS (T:TxtB K mg base t):Own P w K mg base 10 "margin_of" ["day", "call", "number"] (Sp3 (zVs t)):=by
 refine own3 T.d_margin_of zSD fun a b e H Q h f cdv A outer s E hr=>?_
 obtain ⟨p,d,cl,k,rfl,rfl,rfl,hd,G,tab,F,hcl,hk,k0⟩:=h
 refine ⟨_,(zW (yO (z8 u5 (pv 1) (z5 T.g_SPARE) (z9 _)) (zV (zQ (zS (zQY T.toTxt) hr.o (zZ (pv 0) (zZ (pv 2) zY))))) z7)
   (zW (yO (z8 u5 (pv 1) (z5 T.g_GAIN) (z9 _)) (zV (zQ (zS (zQI T) hr.o (zZ (pv 0) (zZ (pv 2) zY))))) z7)
   (zW (yO (z8 u5 (pv 1) (z5 T.g_MORE) (z9 _)) (zV (zQ (zS (zV2 T.toTxt) hr.o (zZ (pv 0) (zZ (pv 2) zY))))) z7)
   (zV (zQ (zS (zTH T.toTxt) hr.o (zZ (pv 0) (zZ (pv 2) zY)))))))),?_⟩
 rcases hcl with rfl|rfl|rfl|rfl
 ·exact ⟨_,rfl,rfl,_,rfl,_,rfl,_,rfl,_,_,rfl,p,d,k,rfl,rfl,hd,G.toDayB,F,hk,k0⟩
 ·exact ⟨_,rfl,rfl,_,rfl,_,rfl,rfl,_,rfl,_,rfl,_,rfl,_,_,rfl,p,d,k,rfl,rfl,hd,G.toDayB,G.s60,tab,F,hk,k0⟩
 ·exact ⟨_,rfl,rfl,_,rfl,_,rfl,rfl,_,rfl,_,rfl,rfl,_,rfl,_,rfl,_,rfl,_,_,rfl,p,d,k,rfl,rfl,hd,G.toDayB,F,hk,k0⟩
 ·exact ⟨_,rfl,rfl,_,rfl,_,rfl,rfl,_,rfl,_,rfl,rfl,_,rfl,_,rfl,_,rfl,_,_,rfl,p,d,k,rfl,rfl,hd,G.toDayB,F,hk,k0⟩
inductive zZ5 (t:Adr) (a:V) (b:V) (H:Hp) (Q:VK):Prop
 | mk (p:Addr) (d:Day) (cl:Nat) (_:a=.ref p) (_:b=.int cl) (_:DayR t H p d) (_:DayG d) (_:TabsOk (Ts t) H) (_:(cl=9∨cl=10∨cl=11)) (_:RZ t H Q (told d (zXi cl))):zZ5 t a b H Q
theorem zWn (T:TxtB K mg base t):Own P w K mg base 9 "answer_of_plan" ["day", "call"] (Sp2 (zZ5 t)):=by
 refine own2 T.d_answer_of_plan zWU fun a b H Q h f cdv A outer s E hr=>?_
 obtain ⟨p,d,cl,rfl,rfl,hd,G,tab,hcl,k0⟩:=h
 refine ⟨_,(zW (yO (zZD (k5 (zS (j7 T.toTxt) hr.o (zZ (zR K (pv 0) rfl) (zZ (zR K (pv 0) rfl) zY))))) (zV (zQ (yX (zZ (z5 T.g_NOT_FILLED) zY)))) z7)
   (zW (yO (z8 u5 (pv 1) (z5 T.g_PLAN) (z9 _)) (zV (zQ (yQ v5 (yX (zZ z3 zY)) (zS (zWN T) hr.o (zZ (pv 0) zY))))) z7)
   (zW (yO (z8 u5 (pv 1) (z5 T.g_LOADS) (z9 _)) (zV (zQ (yQ v5 (yX (zZ z3 zY)) (zS (kZ T) hr.o (zZ (pv 0) zY))))) z7)
   (zV (zQ (yQ v5 (yX (zZ z3 zY)) (zS (zUZ T.toTxt) hr.o (zZ (pv 0) zY)))))))),?_⟩
 obtain ⟨dx,nm,sp,pr,cs,as,h1,h2,h3,h4,h5,h6⟩:=xQ hd
 have b2:=G.hi
 have b4:=G.pr
 have b5:=G.cars
 refine ⟨_,rfl,dc T.toTxt h1 ⟨_,rfl,ds T.toTxt h1 ⟨_,_,rfl,d.cars,d.supply,⟨cs,sp,rfl,rfl,⟨as,h5,h6⟩,b5,h3,by lia⟩,fun H1 S1=>⟨_,rfl,itB (fun z=>?_) fun z=>?_⟩⟩⟩⟩
 ·have z:feasible (tk d.cars d.supply)=false:=by simpa using z
  have z:feasible (taskOf d)=false:=z
  have e:told d (zXi cl)=no 5:=by
   rcases hcl with rfl|rfl|rfl<;>exact if_neg (by rw [z];decide)
  rw [e] at k0
  exact ⟨sz rfl,fun C hC=>k0.mk S1 hC⟩
 ·have z:feasible (tk d.cars d.supply)=true:=by simpa using z
  have z:feasible (taskOf d)=true:=z
  have C0:∀C,H1 C=none→Sm (Ts t) H1 (upd H1 C (.lst [V.int 0]))∧IL (upd H1 C (.lst [V.int 0])) C [0]:=fun C hC=>⟨Sm.new hC,zX⟩
  rcases hcl with rfl|rfl|rfl
  ·have e:told d (zXi 9)=[0]++zn (costNow d::planOf d):=if_pos z
   rw [e] at k0
   have lp:=z2w d
   have lp2:d.cars.length * d.supply.length≤6 * 12:=Nat.mul_le_mul (by lia) (by lia)
   refine ⟨_,rfl,rfl,_,rfl,sz rfl,fun C hC=>?_⟩
   obtain ⟨SC,iC⟩:=C0 C hC
   refine ⟨_,rfl,_,rfl,p,d,rfl,hd.sm (S1.trans SC),G.toDayB,(S1.trans SC).ok tab,z,fun M H2 S2 nM hM=>catI (iC.sm S2) hM ?_ fun R hR=>k0.mk ((S1.trans SC).trans S2) hR⟩
   rw [z6]
   simp only [zlc,List.length_nil]
   lia
  ·have e:told d (zXi 10)=[0]++zn (loadsOf (tk d.cars d.supply) d.price):=if_pos z
   rw [e] at k0
   have ll:(loadsOf (tk d.cars d.supply) d.price).length=d.supply.length:=Chg.zWf
   refine ⟨_,rfl,rfl,_,rfl,_,rfl,rfl,_,rfl,sz rfl,fun C hC=>?_⟩
   obtain ⟨SC,iC⟩:=C0 C hC
   refine ⟨_,rfl,_,rfl,p,d,rfl,hd.sm (S1.trans SC),G.toDayB,(S1.trans SC).ok tab,fun M H2 S2 nM hM=>catI (iC.sm S2) hM ?_ fun R hR=>k0.mk ((S1.trans SC).trans S2) hR⟩
   rw [z6]
   simp only [zlc,List.length_nil]
   lia
  ·have e:told d (zXi 11)=[0]++zn (((levels d.price).drop 1).length::((levels d.price).drop 1).flatMap (xU d)):=by
    refine (if_pos z).trans ?_
    rw [zQ8 d b4]
    unfold proofOf
    rw [zlm]
    rfl
   rw [e] at k0
   have lv:=Chg.zTG d.price
   have lf:=zTy (xU d) 9 ((levels d.price).drop 1) fun q _=>by
    unfold xU
    have:=zYx d.cars.length (worst (tk d.cars (xW d.supply d.price q)))
    simp only [zlc]
    lia
   rw [List.length_drop] at lf
   refine ⟨_,rfl,rfl,_,rfl,_,rfl,rfl,_,rfl,sz rfl,fun C hC=>?_⟩
   obtain ⟨SC,iC⟩:=C0 C hC
   refine ⟨_,rfl,_,rfl,p,d,rfl,hd.sm (S1.trans SC),G.toDayB,fun M H2 S2 nM hM=>catI (iC.sm S2) hM ?_ fun R hR=>k0.mk ((S1.trans SC).trans S2) hR⟩
   rw [z6]
   simp only [zlc,List.length_nil]
   lia
inductive qX (t:Adr) (a:V) (b:V) (e:V) (H:Hp) (Q:VK):Prop
 | mk (p:Addr) (d:Day) (cl:Nat) (l:List Nat) (_:a=.ref p) (_:b=.int cl) (_:z2k e H l) (_:l.length≤100) (_:DayR t H p d) (_:DayG d) (_:TabsOk (Ts t) H) (_:(cl=5∨cl=6∨cl=7∨cl=8∨cl=12∨cl=13∨cl=14)) (_:RZ t H Q (told d (zRZ cl l))):qX t a b e H Q
theorem zY1 (T:TxtB K mg base t):Own P w K mg base 14 "answer_of_telling" ["day", "call", "row"] (Sp3 (qX t)):=by
 refine own3 T.d_answer_of_telling zXm fun a b e H Q h f cdv A outer s E hr=>?_
 obtain ⟨p,d,cl,l,rfl,rfl,⟨r,rfl,hr0,hl0⟩,hl,hd,G,tab,hcl,k0⟩:=h
 refine ⟨_,(zW (yO (z8 u5 (pv 1) (z5 T.g_TEXT) (z9 _)) (zV (zQ (zS (zTx T.toTxt) hr.o (zZ (pv 0) zY)))) z7)
   (zW (yO (z8 u5 (pv 1) (z5 T.g_CAN) (z9 _)) (zV (zQ (zS (zSb T.toTxt) hr.o (zZ (pv 0) zY)))) z7)
   (zW (yO (z8 u5 (pv 1) (z5 T.g_ASKS) (z9 _)) (zV (zQ (zS (zTY T.toTxt) hr.o (zZ (pv 0) (zZ (pv 2) zY))))) z7)
   (zW (yO (z8 u5 (pv 1) (z5 T.g_MOST) (z9 _)) (zV (zQ (zS (zTE T.toTxt) hr.o (zZ (pv 0) zY)))) z7)
   (zW (yO (z8 u5 (pv 1) (z5 T.g_PROVES) (z9 _)) (zV (zQ (zS (zVR T.toTxt) hr.o (zZ (pv 0) (zZ (pv 2) zY))))) z7)
   (zW (yO (z8 u5 (pv 1) (z5 T.g_JUDGE) (z9 _)) (zV (zQ (zS (zU0 T.toTxt) hr.o (zZ (pv 0) (zZ (pv 2) zY))))) z7)
   (zV (zQ (zS (zVZ T) hr.o (zZ (pv 0) zY)))))))))),?_⟩
 have tl:=text_len G.toDayB
 rcases hcl with rfl|rfl|rfl|rfl|rfl|rfl|rfl
 ·exact ⟨_,rfl,rfl,_,rfl,_,rfl,_,rfl,p,d,rfl,hd,G.toDayB,by lia,k0⟩
 ·exact ⟨_,rfl,rfl,_,rfl,_,rfl,rfl,_,rfl,_,rfl,_,rfl,p,d,rfl,hd,G.toDayB,k0⟩
 ·exact ⟨_,rfl,rfl,_,rfl,_,rfl,rfl,_,rfl,_,rfl,rfl,_,rfl,_,rfl,_,rfl,_,_,rfl,p,d,l,rfl,⟨r,rfl,hr0,hl0⟩,hl,hd,G.toDayB,k0⟩
 ·exact ⟨_,rfl,rfl,_,rfl,_,rfl,rfl,_,rfl,_,rfl,rfl,_,rfl,_,rfl,rfl,_,rfl,_,rfl,_,rfl,p,d,rfl,hd,G.toDayB,k0⟩
 ·exact ⟨_,rfl,rfl,_,rfl,_,rfl,rfl,_,rfl,_,rfl,rfl,_,rfl,_,rfl,rfl,_,rfl,_,rfl,rfl,_,rfl,_,rfl,_,rfl,_,_,rfl,p,d,l,rfl,⟨r,rfl,hr0,hl0⟩,hl,hd,G.toDayB,k0⟩
 ·exact ⟨_,rfl,rfl,_,rfl,_,rfl,rfl,_,rfl,_,rfl,rfl,_,rfl,_,rfl,rfl,_,rfl,_,rfl,rfl,_,rfl,_,rfl,rfl,_,rfl,_,rfl,_,rfl,_,_,rfl,p,d,l,rfl,⟨r,rfl,hr0,hl0⟩,hd,G.toDayB,k0⟩
 ·exact ⟨_,rfl,rfl,_,rfl,_,rfl,rfl,_,rfl,_,rfl,rfl,_,rfl,_,rfl,rfl,_,rfl,_,rfl,rfl,_,rfl,_,rfl,rfl,_,rfl,_,rfl,_,rfl,p,d,rfl,hd,G.toDayB,tab,k0⟩
inductive zYD (t:Adr) (a:V) (b:V) (e:V) (H:Hp) (Q:VK):Prop
 | mk (p:Addr) (d:Day) (cl k:Nat) (_:a=.ref p) (_:b=.int cl) (_:e=.int k) (_:DayR t H p d) (_:DayG d) (_:TabsOk (Ts t) H) (_:(cl=15∨cl=16∨cl=17∨cl=18∨cl=19)) (_:RZ t H Q (told d (zRh cl k))):zYD t a b e H Q
theorem zWV (T:TxtB K mg base t):Own P w K mg base 11 "answer_of_one" ["day", "call", "number"] (Sp3 (zYD t)):=by
 refine own3 T.d_answer_of_one k8 fun a b e H Q h f cdv A outer s E hr=>?_
 obtain ⟨p,d,cl,k,rfl,rfl,rfl,hd,G,tab,hcl,k0⟩:=h
 refine ⟨_,(zW (yY (i:=3) k8.nd (y8 K T.b_len (zZ (zR K (pv 0) rfl) zY)))
   (zW (yO (z8 (zSk) (pv 1) (zR4 (zZ (z5 T.g_MORE) (zZ (z5 T.g_LATE) zY))) rfl) (zV (yY (i:=3) k8.nd (y8 K T.b_len (zZ (zR K (pv 0) rfl) zY)))) z7)
   (zW (yO (z8 zRz (pv 2) (pv 3) (z9 _)) (zV (zQ (yX (zZ (z5 T.g_NO_SUCH) zY)))) z7)
   (zW (yO (zZD (k5 (zS (j7 T.toTxt) hr.o (zZ (zR K (pv 0) rfl) (zZ (zR K (pv 0) rfl) zY))))) (zV (zQ (yX (zZ (z5 T.g_NOT_FILLED) zY)))) z7)
   (zW (yO (z8 u5 (pv 1) (z5 T.g_NOW) (z9 _)) (zV (zQ (yQ v5 (yX (zZ z3 zY)) (zS (zX3 T) hr.o (zZ (pv 0) (zZ (pv 2) zY)))))) z7)
   (zV (zQ (yX (zZ z3 (zZ (zS (zTS T) hr.o (zZ (pv 0) (zZ (pv 1) (zZ (pv 2) zY)))) zY)))))))))),?_⟩
 obtain ⟨dx,nm,sp,pr,cs,as,h1,h2,h3,h4,h5,h6⟩:=xQ hd
 have b2:=G.hi
 have b4:=G.pr
 have b5:=G.cars
 have et:told d (zRh cl k)=if zYv d cl≤k then no 4 else if feasible (taskOf d)=true then (if cl=19 then says (nowAt d k) else says [marg d cl k]) else no 5:=by
  rcases hcl with rfl|rfl|rfl|rfl|rfl<;>rfl
 rw [et] at k0
 refine ⟨_,rfl,ds T.toTxt h1 (lenI h3 ?_)⟩
 refine ⟨_,rfl,sz rfl,fun U hU=>?_⟩
 have SU:Sm (Ts t) H (upd H U (.tup [V.int 17,V.int 18])):=Sm.new hU
 have tU:SqT K (upd H U (.tup [V.int 17,V.int 18])) U [V.int 17,V.int 18]:=.inl (.inl zX)
 generalize upd H U (.tup [V.int 17,V.int 18])=H1 at *
 refine ⟨U,_,rfl,.inr tU,rfl,rfl,_,rfl,?_⟩
 rcases hcl with rfl|rfl|rfl|rfl|rfl
 ·have eT:zYv d 15=d.supply.length:=rfl
  rw [eT] at k0
  refine ⟨_,rfl,_,rfl,_,_,rfl,rfl,_,rfl,itP (fun z=>?_) fun z=>?_⟩
  ·have z:((zn d.supply).length:Int)≤(k:Int):=z
   rw [z6] at z
   rw [if_pos (by lia)] at k0
   exact ⟨sz rfl,fun C hC=>k0.mk SU hC⟩
  ·have z:¬((zn d.supply).length:Int)≤(k:Int):=z
   rw [z6] at z
   have hk:k < d.supply.length:=by lia
   rw [if_neg (by lia)] at k0
   have g1:=SU.keep _ _ h1 z0
   refine ⟨_,rfl,dc T.toTxt g1 ⟨_,rfl,ds T.toTxt g1 ⟨_,_,rfl,d.cars,d.supply,⟨cs,sp,rfl,rfl,⟨as,h5.sm SU,wZ h6 SU⟩,b5,h3.sm SU,by lia⟩,fun H2 S2=>⟨_,rfl,itB (fun y=>?_) fun y=>?_⟩⟩⟩⟩
   ·have y:feasible (tk d.cars d.supply)=false:=by simpa using y
    have y:feasible (taskOf d)=false:=y
    rw [if_neg (by rw [y];decide)] at k0
    exact ⟨sz rfl,fun C hC=>k0.mk (SU.trans S2) hC⟩
   ·have y:feasible (tk d.cars d.supply)=true:=by simpa using y
    rw [if_pos (show feasible (taskOf d)=true from y)] at k0
    have S02:=SU.trans S2
    rw [if_neg (by decide)] at k0
    refine ⟨_,rfl,rfl,_,rfl,_,rfl,_,rfl,_,rfl,_,_,_,rfl,p,d,15,k,rfl,rfl,rfl,hd.sm S02,G,S02.ok tab,y,by decide,hk,fun H3 S3=>⟨sz rfl,fun C hC=>k0.mk (S02.trans S3) hC⟩⟩
 ·have eT:zYv d 16=d.supply.length:=rfl
  rw [eT] at k0
  refine ⟨_,rfl,_,rfl,_,_,rfl,rfl,_,rfl,itP (fun z=>?_) fun z=>?_⟩
  ·have z:((zn d.supply).length:Int)≤(k:Int):=z
   rw [z6] at z
   rw [if_pos (by lia)] at k0
   exact ⟨sz rfl,fun C hC=>k0.mk SU hC⟩
  ·have z:¬((zn d.supply).length:Int)≤(k:Int):=z
   rw [z6] at z
   have hk:k < d.supply.length:=by lia
   rw [if_neg (by lia)] at k0
   have g1:=SU.keep _ _ h1 z0
   refine ⟨_,rfl,dc T.toTxt g1 ⟨_,rfl,ds T.toTxt g1 ⟨_,_,rfl,d.cars,d.supply,⟨cs,sp,rfl,rfl,⟨as,h5.sm SU,wZ h6 SU⟩,b5,h3.sm SU,by lia⟩,fun H2 S2=>⟨_,rfl,itB (fun y=>?_) fun y=>?_⟩⟩⟩⟩
   ·have y:feasible (tk d.cars d.supply)=false:=by simpa using y
    have y:feasible (taskOf d)=false:=y
    rw [if_neg (by rw [y];decide)] at k0
    exact ⟨sz rfl,fun C hC=>k0.mk (SU.trans S2) hC⟩
   ·have y:feasible (tk d.cars d.supply)=true:=by simpa using y
    rw [if_pos (show feasible (taskOf d)=true from y)] at k0
    have S02:=SU.trans S2
    rw [if_neg (by decide)] at k0
    refine ⟨_,rfl,rfl,_,rfl,_,rfl,_,rfl,_,rfl,_,_,_,rfl,p,d,16,k,rfl,rfl,rfl,hd.sm S02,G,S02.ok tab,y,by decide,hk,fun H3 S3=>⟨sz rfl,fun C hC=>k0.mk (S02.trans S3) hC⟩⟩
 ·have eT:zYv d 17=d.cars.length:=rfl
  rw [eT] at k0
  refine ⟨_,rfl,dc T.toTxt (SU.keep _ _ h1 z0) (lenR (h5.sm SU) ⟨_,rfl,_,rfl,_,_,rfl,rfl,_,rfl,itP (fun z=>?_) fun z=>?_⟩)⟩
  ·have z:(as.length:Int)≤(k:Int):=z
   rw [h6.len] at z
   rw [if_pos (by lia)] at k0
   exact ⟨sz rfl,fun C hC=>k0.mk SU hC⟩
  ·have z:¬(as.length:Int)≤(k:Int):=z
   rw [h6.len] at z
   have hk:k < d.cars.length:=by lia
   rw [if_neg (by lia)] at k0
   have g1:=SU.keep _ _ h1 z0
   refine ⟨_,rfl,dc T.toTxt g1 ⟨_,rfl,ds T.toTxt g1 ⟨_,_,rfl,d.cars,d.supply,⟨cs,sp,rfl,rfl,⟨as,h5.sm SU,wZ h6 SU⟩,b5,h3.sm SU,by lia⟩,fun H2 S2=>⟨_,rfl,itB (fun y=>?_) fun y=>?_⟩⟩⟩⟩
   ·have y:feasible (tk d.cars d.supply)=false:=by simpa using y
    have y:feasible (taskOf d)=false:=y
    rw [if_neg (by rw [y];decide)] at k0
    exact ⟨sz rfl,fun C hC=>k0.mk (SU.trans S2) hC⟩
   ·have y:feasible (tk d.cars d.supply)=true:=by simpa using y
    rw [if_pos (show feasible (taskOf d)=true from y)] at k0
    have S02:=SU.trans S2
    rw [if_neg (by decide)] at k0
    refine ⟨_,rfl,rfl,_,rfl,_,rfl,_,rfl,_,rfl,_,_,_,rfl,p,d,17,k,rfl,rfl,rfl,hd.sm S02,G,S02.ok tab,y,by decide,hk,fun H3 S3=>⟨sz rfl,fun C hC=>k0.mk (S02.trans S3) hC⟩⟩
 ·have eT:zYv d 18=d.cars.length:=rfl
  rw [eT] at k0
  refine ⟨_,rfl,dc T.toTxt (SU.keep _ _ h1 z0) (lenR (h5.sm SU) ⟨_,rfl,_,rfl,_,_,rfl,rfl,_,rfl,itP (fun z=>?_) fun z=>?_⟩)⟩
  ·have z:(as.length:Int)≤(k:Int):=z
   rw [h6.len] at z
   rw [if_pos (by lia)] at k0
   exact ⟨sz rfl,fun C hC=>k0.mk SU hC⟩
  ·have z:¬(as.length:Int)≤(k:Int):=z
   rw [h6.len] at z
   have hk:k < d.cars.length:=by lia
   rw [if_neg (by lia)] at k0
   have g1:=SU.keep _ _ h1 z0
   refine ⟨_,rfl,dc T.toTxt g1 ⟨_,rfl,ds T.toTxt g1 ⟨_,_,rfl,d.cars,d.supply,⟨cs,sp,rfl,rfl,⟨as,h5.sm SU,wZ h6 SU⟩,b5,h3.sm SU,by lia⟩,fun H2 S2=>⟨_,rfl,itB (fun y=>?_) fun y=>?_⟩⟩⟩⟩
   ·have y:feasible (tk d.cars d.supply)=false:=by simpa using y
    have y:feasible (taskOf d)=false:=y
    rw [if_neg (by rw [y];decide)] at k0
    exact ⟨sz rfl,fun C hC=>k0.mk (SU.trans S2) hC⟩
   ·have y:feasible (tk d.cars d.supply)=true:=by simpa using y
    rw [if_pos (show feasible (taskOf d)=true from y)] at k0
    have S02:=SU.trans S2
    rw [if_neg (by decide)] at k0
    refine ⟨_,rfl,rfl,_,rfl,_,rfl,_,rfl,_,rfl,_,_,_,rfl,p,d,18,k,rfl,rfl,rfl,hd.sm S02,G,S02.ok tab,y,by decide,hk,fun H3 S3=>⟨sz rfl,fun C hC=>k0.mk (S02.trans S3) hC⟩⟩
 ·have eT:zYv d 19=d.supply.length:=rfl
  rw [eT] at k0
  refine ⟨_,rfl,_,rfl,_,_,rfl,rfl,_,rfl,itP (fun z=>?_) fun z=>?_⟩
  ·have z:((zn d.supply).length:Int)≤(k:Int):=z
   rw [z6] at z
   rw [if_pos (by lia)] at k0
   exact ⟨sz rfl,fun C hC=>k0.mk SU hC⟩
  ·have z:¬((zn d.supply).length:Int)≤(k:Int):=z
   rw [z6] at z
   have hk:k < d.supply.length:=by lia
   rw [if_neg (by lia)] at k0
   have g1:=SU.keep _ _ h1 z0
   refine ⟨_,rfl,dc T.toTxt g1 ⟨_,rfl,ds T.toTxt g1 ⟨_,_,rfl,d.cars,d.supply,⟨cs,sp,rfl,rfl,⟨as,h5.sm SU,wZ h6 SU⟩,b5,h3.sm SU,by lia⟩,fun H2 S2=>⟨_,rfl,itB (fun y=>?_) fun y=>?_⟩⟩⟩⟩
   ·have y:feasible (tk d.cars d.supply)=false:=by simpa using y
    have y:feasible (taskOf d)=false:=y
    rw [if_neg (by rw [y];decide)] at k0
    exact ⟨sz rfl,fun C hC=>k0.mk (SU.trans S2) hC⟩
   ·have y:feasible (tk d.cars d.supply)=true:=by simpa using y
    rw [if_pos (show feasible (taskOf d)=true from y)] at k0
    have S02:=SU.trans S2
    rw [if_pos rfl] at k0
    refine ⟨_,rfl,rfl,_,rfl,sz rfl,fun C hC=>?_⟩
    have SC:Sm (Ts t) H2 (upd H2 C (.lst [V.int 0])):=Sm.new hC
    have iC:IL (upd H2 C (.lst [V.int 0])) C [0]:=zX
    have S0C:=S02.trans SC
    have nl:=z3M d k
    refine ⟨_,rfl,_,rfl,_,_,rfl,p,d,k,rfl,rfl,hd.sm S0C,G.toDayB,S0C.ok tab,y,hk,fun M H3 S3 nM hM=>catI (iC.sm S3) hM ?_ fun R hR=>k0.mk (S0C.trans S3) hR⟩
    rw [z6]
    simp only [zlc,List.length_nil]
    lia
end
open PySem PySem.Spec PyProof.Rows L2
open GarText (Bytes isName)
open GarPlug (Car Day within)
open GarLoad
open WqgarjSpec (told says no counted change putCar)
open Chg (canTake xY qZ uS zZC tk yT pick)
structure Kp (t:Adr) (F:Addr→Prop) (H H':Hp):Prop where
 keep:∀x o,H x=some o→Plain o→(¬F x∨∃C dx f v,o=.ins C dx [(f,v)])→H' x=some o
 tabs:TabsOk (Ts t) H→TabsOk (Ts t) H'
theorem Kp.of {t:Adr}{F:Addr→Prop}{H H':Hp} (S:Sm (Ts t) H H'):Kp t F H H':=⟨fun x o h p _=>S.keep x o h p,S.ok⟩
theorem Kp.trans {t:Adr}{F:Addr→Prop}{H H1 H2:Hp} (a:Kp t F H H1) (b:Kp t F H1 H2):Kp t F H H2:=⟨fun x o h p q=>b.keep x o (a.keep x o h p q) p q,fun T=>b.tabs (a.tabs T)⟩
theorem Kp.updL {t:Adr}{F:Addr→Prop}{H:Hp}{y:Addr}{xs:List V}{o:HO} (h:H y=some (.lst xs)) (hF:F y):Kp t F H (upd H y o) where
 keep:=fun x u e p q=>by
  rw [zP fun z=>?_]
  ·exact e
  ·subst z
   rw [h] at e
   obtain rfl:=zsi e
   rcases q with q|⟨C,dx,f,v,q⟩
   ·exact q hF
   ·cases q
 tabs:=zYb (.inr ⟨_,h,yR,fun f z=>by cases z⟩)
theorem Kp.updD {t:Adr}{F:Addr→Prop}{H:Hp}{y C dx nm sp pr cs:Addr}{o:HO} (h:H y=some (.ins C dx (dayF nm sp pr cs))) (hF:F y):Kp t F H (upd H y o) where
 keep:=fun x u e p q=>by
  rw [zP fun z=>?_]
  ·exact e
  ·subst z
   rw [h] at e
   obtain rfl:=zsi e
   rcases q with q|⟨C,dx,f,v,q⟩
   ·exact q hF
   ·cases q
 tabs:=zYb (.inr ⟨_,h,z0,fun f z=>by cases z⟩)
def res (d:Day) (c:WqgarjSpec.Call):Day×List Int:=match change d c with
 | some (.ok x)=>x
 | some (.error a)=>(d,a)
 | none=>(d,told d c)
section
variable {P:Program}{w:World}{K:Fg}{mg:Str→Option Value}{base:Heap}{t:Adr}
abbrev Post (t:Adr) (F:Addr→Prop) (H:Hp) (Q:VK) (a:Addr) (r:Day×List Int):Prop:=∀b H',Kp t F H H'→H b=none→IL H' b r.2→v9 F t H' a r.1→Q (.ref b) H'
theorem v9.setSup {F:Addr→Prop}{H:Hp}{a dx nm sp pr cs:Addr}{as:List Addr}{d:Day}{l:List Nat} (h1:H a=some (.ins t.CD dx (dayF nm sp pr cs))) (h2:IL H nm (zb d.name)) (h3:IL H sp (zn d.supply)) (h4:IL H pr (zn d.price)) (h5:RefL H cs as) (h6:All2 (zWp F sp pr t H) as d.cars)
  (hF:F a∧F nm∧F sp∧F pr∧F cs) (n1:nm≠sp) (n2:nm≠pr) (n3:sp≠pr) (n4:cs≠sp) (n5:cs≠pr):v9 F t (upd H sp (.lst ((zn l).map V.int))) a { d with supply:=l }:=by
 have na:a≠sp:=fun z=>by
  rw [z,h3] at h1
  cases h1
 refine ⟨dx,nm,sp,pr,cs,as,by rw [zP na];exact h1,by unfold IL;rw [zP n1];exact h2,zX,by unfold IL;rw [zP n3.symm];exact h4,by unfold RefL;rw [zP n4];exact h5,h6.imp fun x c hc=>?_,hF,n1,n2,n3,n4,n5⟩
 obtain ⟨dx',nm',e1,e2,e3,e4,e5,e6⟩:=hc
 have nx:x≠sp:=fun z=>by
  rw [z,h3] at e1
  cases e1
 exact ⟨dx',nm',by rw [zP nx];exact e1,by unfold IL;rw [zP e5];exact e2,e3,e4,e5,e6⟩
theorem v9.setPri {F:Addr→Prop}{H:Hp}{a dx nm sp pr cs:Addr}{as:List Addr}{d:Day}{l:List Nat} (h1:H a=some (.ins t.CD dx (dayF nm sp pr cs))) (h2:IL H nm (zb d.name)) (h3:IL H sp (zn d.supply)) (h4:IL H pr (zn d.price)) (h5:RefL H cs as) (h6:All2 (zWp F sp pr t H) as d.cars)
  (hF:F a∧F nm∧F sp∧F pr∧F cs) (n1:nm≠sp) (n2:nm≠pr) (n3:sp≠pr) (n4:cs≠sp) (n5:cs≠pr):v9 F t (upd H pr (.lst ((zn l).map V.int))) a { d with price:=l }:=by
 have na:a≠pr:=fun z=>by
  rw [z,h4] at h1
  cases h1
 refine ⟨dx,nm,sp,pr,cs,as,by rw [zP na];exact h1,by unfold IL;rw [zP n2];exact h2,by unfold IL;rw [zP n3];exact h3,zX,by unfold RefL;rw [zP n5];exact h5,h6.imp fun x c hc=>?_,hF,n1,n2,n3,n4,n5⟩
 obtain ⟨dx',nm',e1,e2,e3,e4,e5,e6⟩:=hc
 have nx:x≠pr:=fun z=>by
  rw [z,h4] at e1
  cases e1
 exact ⟨dx',nm',by rw [zP nx];exact e1,by unfold IL;rw [zP e6];exact e2,e3,e4,e5,e6⟩
theorem v9.setCars {F:Addr→Prop}{H:Hp}{a dx nm sp pr cs cs':Addr}{as:List Addr}{d:Day}{l:List Car} (h1:H a=some (.ins t.CD dx (dayF nm sp pr cs))) (h2:IL H nm (zb d.name)) (h3:IL H sp (zn d.supply)) (h4:IL H pr (zn d.price)) (h5:RefL H cs' as) (h6:All2 (zWp F sp pr t H) as l)
  (hF:F a∧F nm∧F sp∧F pr∧F cs') (n1:nm≠sp) (n2:nm≠pr) (n3:sp≠pr) (n4:cs'≠sp) (n5:cs'≠pr) (hx:∀x c,zWp F sp pr t H x c→x≠a):v9 F t (upd H a (.ins t.CD dx (dayF nm sp pr cs'))) a { d with cars:=l }:=by
 have ne:∀{x:Addr}{xs:List V},H x=some (.lst xs)→x≠a:=fun {x xs} e z=>by
  rw [z,h1] at e
  cases e
 refine ⟨dx,nm,sp,pr,cs',as,zX,by unfold IL;rw [zP (ne h2)];exact h2,by unfold IL;rw [zP (ne h3)];exact h3,by unfold IL;rw [zP (ne h4)];exact h4,by unfold RefL;rw [zP (ne h5)];exact h5,h6.imp fun x c hc=>?_,hF,n1,n2,n3,n4,n5⟩
 have nx:=hx x c hc
 obtain ⟨dx',nm',e1,e2,e3,e4,e5,e6⟩:=hc
 exact ⟨dx',nm',by rw [zP nx];exact e1,by unfold IL;rw [zP (ne e2)];exact e2,e3,e4,e5,e6⟩
theorem z2O {F:Addr→Prop}{H:Hp}{a dx nm sp pr cs x:Addr}{sp' pr':Addr}{c:Car} (h1:H a=some (.ins t.CD dx (dayF nm sp pr cs))) (hc:zWp F sp' pr' t H x c):x≠a:=fun z=>by
 obtain ⟨dx',nm',e1,_⟩:=hc
 rw [z,h1] at e1
 have e:=zsi e1
 have e2:dayF nm sp pr cs=carF nm' c:=by
  injection e
 have:=congrArg List.length e2
 exact absurd this (show ¬(4=5) by decide)
inductive zXv (t:Adr) (a:V) (b:V) (c:V) (e:V) (H:Hp) (Q:VK):Prop
 | mk (r:Addr) (l:List Nat) (k n m:Nat) (_:a=.ref r) (_:IL H r (zn l)) (_:b=.int k) (_:c=.int n) (_:e=.int m) (_:(l.length≤k→RZ t H Q [-4])) (_:(k < l.length→m < n→RZ t H Q [-1])) (_:(k < l.length→n≤m→∀x,H x=none→Q (.ref x) (upd (upd H r (.lst ((zn (l.set k n)).map V.int))) x (.lst [V.int 0])))):zXv t a b c e H Q
theorem zYV (T:Txt K mg t):Own P w K mg base 1 "set_in_slot" ["row", "slot", "number", "most"] (Sp4 (zXv t)):=by
 refine own4 T.d_set_in_slot zU3 fun a b c e H Q h f cdv A outer s E hr=>?_
 obtain ⟨r,l,k,n,m,rfl,hr0,rfl,rfl,rfl,ka,kb,kc⟩:=h
 refine ⟨_,(zW (yO (z8 zRz (pv 1) (y8 K T.b_len (zZ (pv 0) zY)) (z9 _)) (zV (zQ (yX (zZ (z5 T.g_NO_SUCH) zY)))) z7)
   (zW (yO (z8 zT1 (pv 2) (pv 3) (z9 _)) (zV (zQ (yX (zZ (z5 T.g_OUT_OF_BOUNDS) zY)))) z7)
   (zW (zQq (pv 2) (zQt (pv 0) (pv 1) set_list))
   (zV (zQ (yX (zZ z3 zY))))))),?_⟩
 refine ⟨_,rfl,_,rfl,lenI hr0 ⟨_,_,rfl,rfl,_,rfl,itP (fun z=>?_) fun z=>?_⟩⟩
 ·have z:((zn l).length:Int)≤(k:Int):=z
  rw [z6] at z
  exact ⟨sz rfl,fun C hC=>(ka (by lia)).mk (Sm.refl _) hC⟩
 ·have z:¬((zn l).length:Int)≤(k:Int):=z
  rw [z6] at z
  refine ⟨_,rfl,_,rfl,_,_,rfl,rfl,_,rfl,itP (fun y=>?_) fun y=>?_⟩
  ·have y:(m:Int) < (n:Int):=y
   exact ⟨sz rfl,fun C hC=>(kb (by lia) (by lia)).mk (Sm.refl _) hC⟩
  ·have y:¬(m:Int) < (n:Int):=y
   refine ⟨_,rfl,_,rfl,_,rfl,zRl hr0 (by lia) ⟨sz rfl,fun C hC=>kc (by lia) (by lia) C ?_⟩⟩
   have nC:C≠r:=fun e=>by
    rw [e,zX] at hC
    cases hC
   rw [zP nC] at hC
   exact hC
inductive zWi (t:Adr) (a:V) (b:V) (c:V) (H:Hp) (Q:VK):Prop
 | mk (p:Addr) (F:Addr→Prop) (d:Day) (k n:Nat) (_:a=.ref p) (_:b=.int k) (_:c=.int n) (_:v9 F t H p d) (_:(∀x,H x=none→F x)) (_:Post t F H Q p (res d (.supply k n))):zWi t a b c H Q
theorem zUY (T:Txt K mg t):Own P w K mg base 2 "set_supply" ["day", "slot", "supply"] (Sp3 (zWi t)):=by
 refine own3 T.d_set_supply zTv fun a b c H Q h f cdv A outer s E hr=>?_
 obtain ⟨p,F,d,k,n,rfl,rfl,rfl,hd,hF,k0⟩:=h
 refine ⟨_,(zV (zQ (zS (zYV T) hr.o (zZ (zR K (pv 0) rfl) (zZ (pv 1) (zZ (pv 2) (zZ (z5 T.g_MOST_SUPPLY) zY))))))),?_⟩
 have hd0:=hd
 obtain ⟨dx,nm,sp,pr,cs,as,h1,h2,h3,h4,h5,h6,f1,n1,n2,n3,n4,n5⟩:=hd
 have er:res d (.supply k n)=if d.supply.length≤k then (d,no 4) else if 60 < n then (d,no 1) else ({ d with supply:=d.supply.set k n },[0]):=by
  unfold res
  show (match some (if d.slots≤k then Except.error (no 4) else if GarPlug.SUPPLY < n then .error (no 1) else .ok (giving d k n,says [])) with|some (.ok x)=>x|some (.error a)=>(d,a)|none=>(d,told d (.supply k n)))=_
  by_cases q1:d.supply.length≤k
  ·rw [if_pos q1,if_pos (show d.slots≤k from q1)]
  ·rw [if_neg q1,if_neg (show ¬d.slots≤k from q1)]
   by_cases q2:60 < n
   ·rw [if_pos q2,if_pos (show GarPlug.SUPPLY < n from q2)]
   ·rw [if_neg q2,if_neg (show ¬GarPlug.SUPPLY < n from q2)]
    rfl
 rw [er] at k0
 refine ⟨_,rfl,ds T h1 ⟨_,rfl,_,rfl,_,_,_,_,rfl,sp,d.supply,k,n,60,rfl,h3,rfl,rfl,rfl,fun q b H' S nb hb=>?_,fun q q2 b H' S nb hb=>?_,fun q q2 x hx=>?_⟩⟩
 ·rw [if_pos q] at k0
  exact k0 b H' (.of S) nb hb (hd0.sm S)
 ·rw [if_neg (by lia),if_pos q2] at k0
  exact k0 b H' (.of S) nb hb (hd0.sm S)
 ·rw [if_neg (by lia),if_neg (by lia)] at k0
  have nx:upd H sp (.lst ((zn (d.supply.set k n)).map V.int)) x=none:=by
   rw [zP (zT h3 hx).symm]
   exact hx
  exact k0 x _ ((Kp.updL h3 f1.2.2.1).trans (.of (Sm.new nx))) hx zX ((v9.setSup h1 h2 h3 h4 h5 h6 f1 n1 n2 n3 n4 n5).sm (Sm.new nx))
inductive zVv (t:Adr) (a:V) (b:V) (c:V) (H:Hp) (Q:VK):Prop
 | mk (p:Addr) (F:Addr→Prop) (d:Day) (k n:Nat) (_:a=.ref p) (_:b=.int k) (_:c=.int n) (_:v9 F t H p d) (_:d.price.length=d.supply.length) (_:(∀x,H x=none→F x)) (_:Post t F H Q p (res d (.price k n))):zVv t a b c H Q
theorem zTB (T:Txt K mg t):Own P w K mg base 2 "set_price" ["day", "slot", "price"] (Sp3 (zVv t)):=by
 refine own3 T.d_set_price zSY fun a b c H Q h f cdv A outer s E hr=>?_
 obtain ⟨p,F,d,k,n,rfl,rfl,rfl,hd,b4,hF,k0⟩:=h
 refine ⟨_,(zV (zQ (zS (zYV T) hr.o (zZ (zR K (pv 0) rfl) (zZ (pv 1) (zZ (pv 2) (zZ (z5 T.g_MOST_PRICE) zY))))))),?_⟩
 have hd0:=hd
 obtain ⟨dx,nm,sp,pr,cs,as,h1,h2,h3,h4,h5,h6,f1,n1,n2,n3,n4,n5⟩:=hd
 have er:res d (.price k n)=if d.price.length≤k then (d,no 4) else if 999 < n then (d,no 1) else ({ d with price:=d.price.set k n },[0]):=by
  unfold res
  rw [b4]
  show (match some (if d.slots≤k then Except.error (no 4) else if GarPlug.PRICE < n then .error (no 1) else .ok ({ d with price:=d.price.set k n },says [])) with|some (.ok x)=>x|some (.error a)=>(d,a)|none=>(d,told d (.price k n)))=_
  by_cases q1:d.supply.length≤k
  ·rw [if_pos q1,if_pos (show d.slots≤k from q1)]
  ·rw [if_neg q1,if_neg (show ¬d.slots≤k from q1)]
   by_cases q2:999 < n
   ·rw [if_pos q2,if_pos (show GarPlug.PRICE < n from q2)]
   ·rw [if_neg q2,if_neg (show ¬GarPlug.PRICE < n from q2)]
    rfl
 rw [er] at k0
 refine ⟨_,rfl,dp T h1 ⟨_,rfl,_,rfl,_,_,_,_,rfl,pr,d.price,k,n,999,rfl,h4,rfl,rfl,rfl,fun q b H' S nb hb=>?_,fun q q2 b H' S nb hb=>?_,fun q q2 x hx=>?_⟩⟩
 ·rw [if_pos q] at k0
  exact k0 b H' (.of S) nb hb (hd0.sm S)
 ·rw [if_neg (by lia),if_pos q2] at k0
  exact k0 b H' (.of S) nb hb (hd0.sm S)
 ·rw [if_neg (by lia),if_neg (by lia)] at k0
  have nx:upd H pr (.lst ((zn (d.price.set k n)).map V.int)) x=none:=by
   rw [zP (zT h4 hx).symm]
   exact hx
  exact k0 x _ ((Kp.updL h4 f1.2.2.2.1).trans (.of (Sm.new nx))) hx zX ((v9.setPri h1 h2 h3 h4 h5 h6 f1 n1 n2 n3 n4 n5).sm (Sm.new nx))
end
open PySem PySem.Spec PyProof.Rows L2
open GarText (Bytes isName)
open GarPlug (Car Day within)
open GarLoad
open WqgarjSpec (told says no counted change putCar)
open Chg (canTake xY qZ uS zZC tk yT pick without)
theorem bnt {b:Bool} (h:(!b)=true):b=false:=by
 cases b
 ·rfl
 ·cases h
theorem bnf {b:Bool} (h:(!b)=false):b=true:=by
 cases b
 ·cases h
 ·rfl
section
variable {P:Program}{w:World}{K:Fg}{mg:Str→Option Value}{base:Heap}{t:Adr}
inductive zVh (t:Adr) (a:V) (b:V) (H:Hp) (Q:VK):Prop
 | mk (p:Addr) (F:Addr→Prop) (d:Day) (c:Nat) (_:a=.ref p) (_:b=.int c) (_:v9 F t H p d) (_:d.cars.length≤6) (_:(∀x,H x=none→F x)) (_:Post t F H Q p (res d (.gone c))):zVh t a b H Q
theorem zTD (T:Txt K mg t):Own P w K mg base 1 "take_away" ["day", "number"] (Sp2 (zVh t)):=by
 refine own2 T.d_take_away zT8 fun a b H Q h f cdv A outer s E hr=>?_
 obtain ⟨p,F,d,c,rfl,rfl,hd,b5,hF,k0⟩:=h
 refine ⟨_,(zW (yO (z8 zRz (pv 1) (y8 K T.b_len (zZ (zR K (pv 0) rfl) zY)) (z9 _)) (zV (zQ (yX (zZ (z5 T.g_NO_SUCH) zY)))) z7)
   (zW (zZ0 (pv 0) (yQ v5 (y9 (xZ K) (zR K (pv 0) rfl) v8 (xX (pv 1))) (y9 (xZ K) (zR K (pv 0) rfl) (xX (yQ vR (pv 1) z3)) v8)) rfl)
   (zV (zQ (yX (zZ z3 (zZ (y8 K T.b_len (zZ (zR K (pv 0) rfl) zY)) zY))))))),?_⟩
 have hd0:=hd
 obtain ⟨dx,nm,sp,pr,cs,as,h1,h2,h3,h4,h5,h6,f1,n1,n2,n3,n4,n5⟩:=hd
 have las:=h6.len
 have er:res d (.gone c)=if d.cars.length≤c then (d,no 4) else ({ d with cars:=d.cars.eraseIdx c },says [d.cars.length-1]):=by
  unfold res
  show (match some (if d.cars.length≤c then Except.error (no 4) else .ok ({ d with cars:=d.cars.eraseIdx c },says [d.cars.length-1])) with|some (.ok x)=>x|some (.error a)=>(d,a)|none=>(d,told d (.gone c)))=_
  by_cases q1:d.cars.length≤c
  ·rw [if_pos q1,if_pos q1]
  ·rw [if_neg q1,if_neg q1]
 rw [er] at k0
 refine ⟨_,rfl,_,rfl,dc T h1 (lenR h5 ⟨_,_,rfl,rfl,_,rfl,itP (fun z=>?_) fun z=>?_⟩)⟩
 ·have z:(as.length:Int)≤(c:Int):=z
  rw [if_pos (by lia)] at k0
  exact ⟨sz rfl,fun C hC=>k0 C _ (.of (Sm.new hC)) hC zX (hd0.sm (Sm.new hC))⟩
 ·have z:¬(as.length:Int)≤(c:Int):=z
  rw [if_neg (by lia)] at k0
  have hca:c < as.length:=by lia
  refine ⟨_,rfl,dc T h1 ⟨_,rfl,_,rfl,cs,_,rfl,SqL.of h5,fun M1 hM1=>?_⟩⟩
  have c1:cutV (as.map V.ref) none (some (c:Int))=(as.take c).map V.ref:=by
   rw [List.map_take]
   exact zRV _ (by rw [zlm];lia)
  rw [c1]
  have S1:Sm (Ts t) H (upd H M1 (.lst ((as.take c).map V.ref))):=Sm.new hM1
  have r1:RefL (upd H M1 (.lst ((as.take c).map V.ref))) M1 (as.take c):=zX
  generalize upd H M1 (.lst ((as.take c).map V.ref))=H1 at *
  refine ⟨_,rfl,dc T (S1.keep _ _ h1 z0) ⟨_,rfl,_,_,rfl,rfl,_,rfl,cs,_,rfl,SqL.of (h5.sm S1),fun M2 hM2=>?_⟩⟩
  have c2:cutV (as.map V.ref) (some ((c:Int)+1)) none=(as.drop (c+1)).map V.ref:=by
   rw [List.map_drop]
   exact uZ _ (c+1)
  rw [c2]
  have S2:Sm (Ts t) H1 (upd H1 M2 (.lst ((as.drop (c+1)).map V.ref))):=Sm.new hM2
  have r2:RefL (upd H1 M2 (.lst ((as.drop (c+1)).map V.ref))) M2 (as.drop (c+1)):=zX
  generalize upd H1 M2 (.lst ((as.drop (c+1)).map V.ref))=H2 at *
  refine RefL.app (p:=M1) (r1.sm S2) r2 (by rw [List.length_take,List.length_drop];lia) fun O hO rO=>?_
  have S3:Sm (Ts t) H2 (upd H2 O (.lst ((as.take c++as.drop (c+1)).map V.ref))):=Sm.new hO
  have nO:H O=none:=(S1.trans S2).free hO
  generalize upd H2 O (.lst ((as.take c++as.drop (c+1)).map V.ref))=H3 at *
  have S03:=(S1.trans S2).trans S3
  have g1:=S03.keep _ _ h1 z0
  refine ⟨_,rfl,p,_,dx,_,rfl,g1,T.k_Day.cl,T.k_Day.no _ (by decide +kernel),Nat.le_of_ble_eq_true rfl,?_⟩
  rw [zQa]
  have a6:All2 (zWp F sp pr t H3) (as.take c++as.drop (c+1)) (d.cars.eraseIdx c):=by
   have:=h6.imp fun _ _ h=>h.sm (t:=t) S03
   rw [List.eraseIdx_eq_take_drop_succ]
   exact (this.take c).app (this.drop (c+1))
  have hd3:v9 F t (upd H3 p (.ins t.CD dx (dayF nm sp pr O))) p { d with cars:=d.cars.eraseIdx c }:=v9.setCars g1 (h2.sm S03) (h3.sm S03) (h4.sm S03) rO a6 ⟨f1.1,f1.2.1,f1.2.2.1,f1.2.2.2.1,hF O nO⟩ n1 n2 n3 (zT h3 nO).symm (zT h4 nO).symm fun x c hc=>z2O g1 hc
  have K3:Kp t F H (upd H3 p (.ins t.CD dx (dayF nm sp pr O))):=(Kp.of S03).trans (Kp.updD g1 f1.1)
  have rO4:RefL (upd H3 p (.ins t.CD dx (dayF nm sp pr O))) O (as.take c++as.drop (c+1)):=by
   unfold RefL
   rw [zP (zT h1 nO).symm]
   exact rO
  have fr:∀C,upd H3 p (.ins t.CD dx (dayF nm sp pr O)) C=none→H C=none:=fun C hC=>by
   by_cases e:C=p
   ·rw [e,zX] at hC
    cases hC
   ·rw [zP e] at hC
    exact S03.free hC
  have g4:upd H3 p (.ins t.CD dx (dayF nm sp pr O)) p=some (.ins t.CD dx (dayF nm sp pr O)):=zX
  generalize upd H3 p (.ins t.CD dx (dayF nm sp pr O))=H4 at *
  refine ⟨_,rfl,dc T g4 (lenR rO4 ⟨sz rfl,fun C hC=>?_⟩)⟩
  refine k0 C _ (K3.trans (.of (Sm.new hC))) (fr C hC) ?_ (hd3.sm (Sm.new hC))
  have e:says [d.cars.length-1]=[0,((as.take c++as.drop (c+1)).length:Int)]:=by
   rw [zla,List.length_take,List.length_drop]
   show [(0:Int),((d.cars.length-1:Nat):Int)]=_
   have:d.cars.length-1=min c as.length+(as.length-(c+1)):=by lia
   rw [this]
  rw [e]
  exact zX
inductive zXE (t:Adr) (a:V) (b:V) (H:Hp) (Q:VK):Prop
 | mk (p x:Addr) (d:Day) (c:Car) (_:a=.ref p) (_:b=.ref x) (_:DayR t H p d) (_:zZe t H x c) (_:c.name.length≤5000) (_:RB t H Q (c.ok d.slots)):zXE t a b H Q
theorem zUr (T:Txt K mg t):Own P w K mg base 3 "could_stand" ["day", "car"] (Sp2 (zXE t)):=by
 refine own2 T.d_could_stand zUV fun a b H Q h f cdv A outer s E hr=>?_
 obtain ⟨p,x,d,c,rfl,rfl,hd,hc,hl,k0⟩:=h
 refine ⟨_,(zW (yO (zTP (zZD (k5 (zS (zXU T) hr.o (zZ (zR K (pv 1) rfl) zY)))) (zTj (zZD (k5 (zS (kU T) hr.o (zZ (zR K (pv 1) rfl) (zZ (zR K (pv 1) rfl) zY))))))).pt (zV (zQ zQU)) z7)
   (zV (zQ (zS (zWm T) hr.o (zZ (zR K (pv 1) rfl) (zZ (zR K (pv 1) rfl) (zZ (y8 K T.b_len (zZ (zR K (pv 0) rfl) zY)) zY))))))),?_⟩
 have ec:c.ok d.slots=(isName c.name && ((decide ((c.need:Int)≤99) && (decide (1≤(c.rate:Int)) && decide ((c.rate:Int)≤20))) && (decide ((c.from_:Int) < (c.to_:Int)) && decide ((c.to_:Int)≤((zn d.supply).length:Int))))):=by
  unfold Car.ok within
  rw [z6,Bool.eq_iff_iff]
  simp only [zbt,zde]
  show _∧_∧c.to_≤d.supply.length∧(0≤c.need∧c.need≤99)∧(1≤c.rate∧c.rate≤20)↔_
  refine and_congr_right fun _=>?_
  lia
 rw [ec] at k0
 refine ⟨_,rfl,zTz T hc fun nm hnm=>⟨_,rfl,c.name,⟨nm,rfl,hnm,hl⟩,fun H1 S1=>⟨_,rfl,itB (fun z=>iteT ?_) fun z=>?_⟩⟩⟩
 ·have z:isName c.name=false:=by simpa using z
  rw [z,Bool.false_and] at k0
  exact k0 H1 S1
 ·have z:isName c.name=true:=by simpa using z
  rw [z,Bool.true_and] at k0
  have hc1:=hc.sm (t:=t) S1
  refine ⟨_,rfl,zWs T hc1 ⟨_,rfl,zVP T hc1 ⟨_,_,rfl,_,_,rfl,rfl,fun H2 S2=>⟨_,rfl,itB (fun y=>?_) fun y=>?_⟩⟩⟩⟩
  ·have y:(decide ((c.need:Int)≤99) && (decide (1≤(c.rate:Int)) && decide ((c.rate:Int)≤20)))=false:=bnt y
   rw [y,Bool.false_and] at k0
   exact k0 H2 (S1.trans S2)
  ·have y:(decide ((c.need:Int)≤99) && (decide (1≤(c.rate:Int)) && decide ((c.rate:Int)≤20)))=true:=bnf y
   rw [y,Bool.true_and] at k0
   have S12:=S1.trans S2
   have hc2:=hc.sm (t:=t) S12
   exact ⟨_,rfl,zYH T hc2 ⟨_,rfl,zZ6 T hc2 ⟨_,rfl,zUj T (hd.sm S12) fun sp hsp=>lenI hsp ⟨_,_,_,rfl,_,_,_,rfl,rfl,rfl,fun H3 S3=>k0 H3 (S12.trans S3)⟩⟩⟩⟩
end
open PySem PySem.Spec PyProof.Rows L2
open GarText (Bytes isName)
open GarPlug (Car Day within)
open GarLoad
open WqgarjSpec (told says no counted change putCar)
open Chg (canTake xY qZ uS zZC tk yT pick without)
def idxOf (d:Day) (x:Bytes):Nat:=d.cars.findIdx fun (c:Car)=>c.name == x
def putAt (d:Day) (c:Car):List Car:=(d.cars.take (idxOf d c.name)++[c])++d.cars.drop (idxOf d c.name+1)
theorem z1X {d:Day} (c:Car) (h:d.cars.length≤6):putCar d c=if idxOf d c.name=6 then none else some { d with cars:=putAt d c }:=by
 unfold putCar putAt idxOf
 cases e:d.cars.findIdx? fun (x:Car)=>x.name == c.name with
 | some i=>
  obtain ⟨h1,h2⟩:=List.findIdx?_eq_some_iff_findIdx_eq.mp e
  show some { d with cars:=d.cars.set i c }=_
  rw [h2,if_neg (by lia),List.set_eq_take_append_cons_drop,if_pos h1,zaa]
  rfl
 | none=>
  have h2:=List.findIdx?_eq_none_iff_findIdx_eq.mp e
  rw [h2]
  show (if 6≤d.cars.length then none else some { d with cars:=d.cars++[c] })=_
  by_cases q:d.cars.length=6
  ·rw [if_pos (by lia),if_pos q]
  ·rw [if_neg (by lia),if_neg q,List.take_length,List.drop_eq_nil_of_le (by lia),List.append_nil]
theorem z0h {d:Day}{a b n r:Nat}{x:Bytes} (h:d.cars.length≤6):res d (.car a b n r x)=if (⟨x,a,b,n,r⟩:Car).ok d.slots=false then (d,no 1) else if idxOf d x=6 then (d,no 7) else ({ d with cars:=putAt d ⟨x,a,b,n,r⟩ },says [(putAt d ⟨x,a,b,n,r⟩).length]):=by
 unfold res
 show (match some (if (⟨x,a,b,n,r⟩:Car).ok d.slots=false then Except.error (no 1) else match putCar d ⟨x,a,b,n,r⟩ with
   | none=>.error (no 7)
   | some e=>.ok (e,says [e.cars.length])) with|some (.ok x)=>x|some (.error a)=>(d,a)|none=>(d,told d (.car a b n r x)))=_
 by_cases q:(⟨x,a,b,n,r⟩:Car).ok d.slots=false
 ·rw [if_pos q,if_pos q]
 ·rw [if_neg q,if_neg q,z1X _ h]
  by_cases q2:idxOf d x=6
  ·rw [if_pos q2,if_pos q2]
  ·rw [if_neg q2,if_neg q2]
def Ap (t:Adr) (H:Hp) (p r:Addr):Prop:=∀dx nm sp pr cs,H p=some (.ins t.CD dx (dayF nm sp pr cs))→r≠sp∧r≠pr
section
variable {P:Program}{w:World}{K:Fg}{mg:Str→Option Value}{base:Heap}{t:Adr}
inductive zU6 (t:Adr) (a:V) (b:V) (e:V) (H:Hp) (Q:VK):Prop
 | mk (p nb r:Addr) (F:Addr→Prop) (d:Day) (i j n k:Nat) (x:Bytes) (_:a=.ref p) (_:b=.ref nb) (_:e=.ref r) (_:v9 F t H p d) (_:d.cars.length≤6) (_:IL H nb (zn [i,j,n,k])) (_:IL H r (zb x)) (_:x.length≤5000) (_:F r) (_:Ap t H p r) (_:(∀x,H x=none→F x)) (_:Post t F H Q p (res d (.car i j n k x))):zU6 t a b e H Q
theorem zRm (T:Txt K mg t):Own P w K mg base 4 "put_car" ["day", "numbers", "name"] (Sp3 (zU6 t)):=by
 refine own3 T.d_put_car zWK fun a b e H Q h f cdv A outer s E hr=>?_
 obtain ⟨p,nb,r,F,d,i,j,n,k,x,rfl,rfl,rfl,hd,b5,hnb,hr0,hl,Fr,ap,hF,k0⟩:=h
 refine ⟨_,(zW (yY (i:=3) zWK.nd (z0U (zRI T) hr.o (zZ (pv 2) (zZ (yP (z4 K) (pv 1) z3 (fun _ _=>rfl)) (zZ (yP (z4 K) (pv 1) z3 (fun _ _=>rfl)) (zZ (yP (z4 K) (pv 1) z3 (fun _ _=>rfl)) (zZ (yP (z4 K) (pv 1) z3 (fun _ _=>rfl)) zY)))))))
   (zW (yO (zZD (k5 (zS (zUr T) hr.o (zZ (pv 0) (zZ (pv 3) zY))))) (zV (zQ (yX (zZ (z5 T.g_OUT_OF_BOUNDS) zY)))) z7)
   (zW (yY (i:=4) zWK.nd (zS (zSB T) hr.o (zZ (pv 2) (zZ (zR K (pv 0) rfl) zY))))
   (zW (yO (z8 u5 (pv 4) (z5 T.g_MOST_CARS) (z9 _)) (zV (zQ (yX (zZ (z5 T.g_SIX_CARS) zY)))) z7)
   (zW (zZ0 (pv 0) (yQ v5 (yQ v5 (y9 (xZ K) (zR K (pv 0) rfl) v8 (xX (pv 4))) (yX (zZ (pv 3) zY))) (y9 (xZ K) (zR K (pv 0) rfl) (xX (yQ vR (pv 4) z3)) v8)) rfl)
   (zV (zQ (yX (zZ z3 (zZ (y8 K T.b_len (zZ (zR K (pv 0) rfl) zY)) zY)))))))))),?_⟩
 have hd0:=hd
 obtain ⟨dx,nm,sp,pr,cs,as,h1,h2,h3,h4,h5,h6,f1,n1,n2,n3,n4,n5⟩:=hd
 obtain ⟨rsp,rpr⟩:=ap _ _ _ _ _ h1
 have las:=h6.len
 rw [z0h b5] at k0
 generalize hc0:(⟨x,i,j,n,k⟩:Car)=c at k0
 have cn:c.name=x:=by rw [←hc0]
 refine ⟨_,rfl,_,rfl,jW (k:=0) hnb rfl ⟨_,rfl,jW (k:=1) hnb rfl ⟨_,rfl,jW (k:=2) hnb rfl ⟨_,rfl,jW (k:=3) hnb rfl ?_⟩⟩⟩⟩
 intro X dx' hX hdx hne
 refine ⟨X,dx',r,c,by rw [←hc0];rfl,zX,rfl,?_⟩
 rw [uT]
 have SX:=zWT (t:=t) (o:=.ins t.CC dx' (carF r c)) hX hdx hne
 have cX:zWp F sp pr t (upd (upd H dx' (.own X)) X (.ins t.CC dx' (carF r c))) X c:=⟨dx',r,zX,by rw [cn];exact hr0.sm (t:=t) SX,hF X hX,Fr,rsp,rpr⟩
 generalize upd (upd H dx' (.own X)) X (.ins t.CC dx' (carF r c))=H1 at *
 refine ⟨_,rfl,_,rfl,_,_,rfl,p,X,d,c,rfl,rfl,hd0.r.sm SX,cX.at_,by rw [cn];exact hl,fun H2 S2=>⟨_,rfl,itB (fun z=>?_) fun z=>?_⟩⟩
 ·rw [if_pos (bnt z)] at k0
  exact ⟨sz rfl,fun C hC=>k0 C _ (.of ((SX.trans S2).add hC)) ((SX.trans S2).free hC) zX (hd0.sm ((SX.trans S2).add hC))⟩
 ·rw [if_neg (by rw [bnf z];decide)] at k0
  have S02:=SX.trans S2
  refine ⟨_,rfl,_,rfl,dc T (S02.keep _ _ h1 z0) ⟨_,_,rfl,cs,x,d.cars,⟨r,rfl,hr0.sm S02,hl⟩,rfl,⟨as,h5.sm S02,h6.imp fun _ _ h=>(h.sm (t:=t) S02).at_⟩,by lia,fun H3 S3=>?_⟩⟩
  have S03:=S02.trans S3
  have ei:(d.cars.findIdx fun (c:Car)=>c.name == x)=idxOf d x:=rfl
  rw [ei]
  refine ⟨_,rfl,rfl,_,rfl,itB (fun y=>?_) fun y=>?_⟩
  ·have y:((idxOf d x:Nat):Int)=6:=iEq y
   rw [if_pos (by lia)] at k0
   exact ⟨sz rfl,fun C hC=>k0 C _ (.of (S03.add hC)) (S03.free hC) zX (hd0.sm (S03.add hC))⟩
  ·have y:((idxOf d x:Nat):Int)≠6:=iNe y
   rw [if_neg (by lia)] at k0
   have il:idxOf d x≤d.cars.length:=List.findIdx_le_length
   unfold putAt at k0
   rw [cn] at k0
   generalize idxOf d x=q at *
   refine ⟨_,rfl,dc T (S03.keep _ _ h1 z0) ⟨_,rfl,_,rfl,cs,_,rfl,SqL.of (h5.sm S03),fun M1 hM1=>?_⟩⟩
   have c1:cutV (as.map V.ref) none (some (q:Int))=(as.take q).map V.ref:=by
    rw [List.map_take]
    exact zRV _ (by rw [zlm];lia)
   rw [c1]
   have S4:Sm (Ts t) H3 (upd H3 M1 (.lst ((as.take q).map V.ref))):=Sm.new hM1
   have r1:RefL (upd H3 M1 (.lst ((as.take q).map V.ref))) M1 (as.take q):=zX
   generalize upd H3 M1 (.lst ((as.take q).map V.ref))=H4 at *
   refine ⟨_,rfl,sz rfl,fun M2 hM2=>?_⟩
   have S5:Sm (Ts t) H4 (upd H4 M2 (.lst [V.ref X])):=Sm.new hM2
   have r2:RefL (upd H4 M2 (.lst [V.ref X])) M2 [X]:=zX
   generalize upd H4 M2 (.lst [V.ref X])=H5 at *
   refine RefL.app (p:=M1) (r1.sm S5) r2 (by rw [List.length_take];simp only [List.length_singleton];lia) fun O hO rO=>?_
   have S6:Sm (Ts t) H5 (upd H5 O (.lst ((as.take q++[X]).map V.ref))):=Sm.new hO
   generalize upd H5 O (.lst ((as.take q++[X]).map V.ref))=H6 at *
   have S06:=((S03.trans S4).trans S5).trans S6
   refine ⟨_,rfl,dc T (S06.keep _ _ h1 z0) ⟨_,rfl,_,_,rfl,rfl,_,rfl,cs,_,rfl,SqL.of (h5.sm S06),fun M3 hM3=>?_⟩⟩
   have c2:cutV (as.map V.ref) (some ((q:Int)+1)) none=(as.drop (q+1)).map V.ref:=by
    rw [List.map_drop]
    exact uZ _ (q+1)
   rw [c2]
   have S7:Sm (Ts t) H6 (upd H6 M3 (.lst ((as.drop (q+1)).map V.ref))):=Sm.new hM3
   have r3:RefL (upd H6 M3 (.lst ((as.drop (q+1)).map V.ref))) M3 (as.drop (q+1)):=zX
   generalize upd H6 M3 (.lst ((as.drop (q+1)).map V.ref))=H7 at *
   refine RefL.app (p:=O) (rO.sm S7) r3 (by rw [zla,List.length_take,List.length_drop];simp only [List.length_singleton];lia) fun Z hZ rZ=>?_
   have nZ:H Z=none:=(S06.trans S7).free hZ
   have S8:Sm (Ts t) H7 (upd H7 Z (.lst (((as.take q++[X])++as.drop (q+1)).map V.ref))):=Sm.new hZ
   generalize upd H7 Z (.lst (((as.take q++[X])++as.drop (q+1)).map V.ref))=H8 at *
   have S08:=(S06.trans S7).trans S8
   have S18:=((((((S2.trans S3).trans S4).trans S5).trans S6).trans S7).trans S8)
   have g1:=S08.keep _ _ h1 z0
   refine ⟨_,rfl,p,_,dx,_,rfl,g1,T.k_Day.cl,T.k_Day.no _ (by decide +kernel),Nat.le_of_ble_eq_true rfl,?_⟩
   rw [zQa]
   have a8:All2 (zWp F sp pr t H8) ((as.take q++[X])++as.drop (q+1)) ((d.cars.take q++[c])++d.cars.drop (q+1)):=by
    have:=h6.imp fun _ _ h=>h.sm (t:=t) S08
    exact ((this.take q).app (.cons (cX.sm S18) .nil)).app (this.drop (q+1))
   have hd3:v9 F t (upd H8 p (.ins t.CD dx (dayF nm sp pr Z))) p { d with cars:=(d.cars.take q++[c])++d.cars.drop (q+1) }:=v9.setCars g1 (h2.sm S08) (h3.sm S08) (h4.sm S08) rZ a8 ⟨f1.1,f1.2.1,f1.2.2.1,f1.2.2.2.1,hF Z nZ⟩ n1 n2 n3 (zT h3 nZ).symm (zT h4 nZ).symm fun x c hc=>z2O g1 hc
   have K3:Kp t F H (upd H8 p (.ins t.CD dx (dayF nm sp pr Z))):=(Kp.of S08).trans (Kp.updD g1 f1.1)
   have rZ4:RefL (upd H8 p (.ins t.CD dx (dayF nm sp pr Z))) Z ((as.take q++[X])++as.drop (q+1)):=by
    unfold RefL
    rw [zP (zT h1 nZ).symm]
    exact rZ
   have fr:∀C,upd H8 p (.ins t.CD dx (dayF nm sp pr Z)) C=none→H C=none:=fun C hC=>by
    by_cases e:C=p
    ·rw [e,zX] at hC
     cases hC
    ·rw [zP e] at hC
     exact S08.free hC
   have g4:upd H8 p (.ins t.CD dx (dayF nm sp pr Z)) p=some (.ins t.CD dx (dayF nm sp pr Z)):=zX
   generalize upd H8 p (.ins t.CD dx (dayF nm sp pr Z))=H9 at *
   refine ⟨_,rfl,dc T g4 (lenR rZ4 ⟨sz rfl,fun C hC=>?_⟩)⟩
   refine k0 C _ (K3.trans (.of (Sm.new hC))) (fr C hC) ?_ (hd3.sm (Sm.new hC))
   have e:says [((d.cars.take q++[c])++d.cars.drop (q+1)).length]=[0,(((as.take q++[X])++as.drop (q+1)).length:Int)]:=by
    rw [a8.len]
    rfl
   show IL _ C (says _)
   rw [e]
   exact zX
def zS8 (cl:Nat) (nums:List Nat) (x:Bytes):WqgarjSpec.Call:=if cl=1 then .car (nums.getD 0 0) (nums.getD 1 0) (nums.getD 2 0) (nums.getD 3 0) x else if cl=2 then .gone (nums.getD 0 0) else if cl=3 then .supply (nums.getD 0 0) (nums.getD 1 0) else .price (nums.getD 0 0) (nums.getD 1 0)
inductive zZl (t:Adr) (a:V) (b:V) (e:V) (g:V) (H:Hp) (Q:VK):Prop
 | mk (p nb r:Addr) (F:Addr→Prop) (d:Day) (cl:Nat) (nums:List Nat) (x:Bytes) (_:a=.ref p) (_:b=.int cl) (_:e=.ref nb) (_:g=.ref r) (_:v9 F t H p d) (_:DayG d) (_:IL H nb (zn nums)) (_:IL H r (zb x)) (_:x.length≤5000) (_:F r) (_:Ap t H p r) (_:(∀x,H x=none→F x)) (_:((cl=1∧nums.length=4)∨(cl=2∧nums.length=1)∨(cl=3∧nums.length=2)∨(cl=4∧nums.length=2))) (_:Post t F H Q p (res d (zS8 cl nums x))):zZl t a b e g H Q
theorem zXq (T:Txt K mg t):Own P w K mg base 5 "answer_of_change" ["day", "call", "numbers", "row"] (Sp4 (zZl t)):=by
 refine own4 T.d_answer_of_change zXL fun a b e g H Q h f cdv A outer s E hr=>?_
 obtain ⟨p,nb,r,F,d,cl,nums,x,rfl,rfl,rfl,rfl,hd,G,hnb,hr0,hl,Fr,ap,hF,hcl,k0⟩:=h
 refine ⟨_,(zW (yO (z8 u5 (pv 1) (z5 T.g_CAR) (z9 _)) (zV (zQ (zS (zRm T) hr.o (zZ (pv 0) (zZ (pv 2) (zZ (pv 3) zY)))))) z7)
   (zW (yO (z8 u5 (pv 1) (z5 T.g_GONE) (z9 _)) (zV (zQ (zS (zTD T) hr.o (zZ (pv 0) (zZ (yP (z4 K) (pv 2) z3 (fun _ _=>rfl)) zY))))) z7)
   (zW (yO (z8 u5 (pv 1) (z5 T.g_SUPPLY) (z9 _)) (zV (zQ (zS (zUY T) hr.o (zZ (pv 0) (zZ (yP (z4 K) (pv 2) z3 (fun _ _=>rfl)) (zZ (yP (z4 K) (pv 2) z3 (fun _ _=>rfl)) zY)))))) z7)
   (zV (zQ (zS (zTB T) hr.o (zZ (pv 0) (zZ (yP (z4 K) (pv 2) z3 (fun _ _=>rfl)) (zZ (yP (z4 K) (pv 2) z3 (fun _ _=>rfl)) zY))))))))),?_⟩
 rcases hcl with ⟨rfl,hn⟩|⟨rfl,hn⟩|⟨rfl,hn⟩|⟨rfl,hn⟩
 ·match nums,hn with
  | [i,j,n,k],_=>exact ⟨_,rfl,rfl,_,rfl,_,rfl,_,rfl,_,rfl,_,_,_,rfl,p,nb,r,F,d,i,j,n,k,x,rfl,rfl,rfl,hd,G.cars,hnb,hr0,hl,Fr,ap,hF,k0⟩
 ·match nums,hn with
  | [i],_=>exact ⟨_,rfl,rfl,_,rfl,_,rfl,rfl,_,rfl,_,rfl,_,rfl,jW (k:=0) hnb rfl ⟨_,_,rfl,p,F,d,i,rfl,rfl,hd,G.cars,hF,k0⟩⟩
 ·match nums,hn with
  | [i,j],_=>exact ⟨_,rfl,rfl,_,rfl,_,rfl,rfl,_,rfl,_,rfl,rfl,_,rfl,_,rfl,_,rfl,jW (k:=0) hnb rfl ⟨_,rfl,jW (k:=1) hnb rfl ⟨_,_,_,rfl,p,F,d,i,j,rfl,rfl,rfl,hd,hF,k0⟩⟩⟩
 ·match nums,hn with
  | [i,j],_=>exact ⟨_,rfl,rfl,_,rfl,_,rfl,rfl,_,rfl,_,rfl,rfl,_,rfl,_,rfl,_,rfl,jW (k:=0) hnb rfl ⟨_,rfl,jW (k:=1) hnb rfl ⟨_,_,_,rfl,p,F,d,i,j,rfl,rfl,rfl,hd,G.pr,hF,k0⟩⟩⟩
end
open PySem PySem.Spec PyProof.Rows L2
open GarText (Bytes isName valueOf)
open GarPlug (Car Day within)
open GarLoad
open WqgarjSpec (told says no counted change putCar)
open Chg (canTake xY qZ uS zZC tk yT pick without w1 zYO fRow fCar zWG zZZ numW isNum kindAt lns slotsOf uY nums zVC FF NF)
theorem zTr {b:Bytes} (h:isName b=true):b.length≤12:=by
 unfold isName at h
 split at h
 ·cases h
 ·simp only [zbt,zde] at h
  exact h.2.2
theorem z17 {L:List (List Bytes)} (h:1 < L.length) (k:kindAt L 0=0):isName (w1 (L.getD 0 []) 1)=true∧1≤slotsOf L∧slotsOf L≤12:=by
 unfold kindAt at k
 rw [if_neg (by lia),if_pos rfl] at k
 unfold zYO at k
 split at k
 ·cases k
 ·rename_i q
  split at k
  ·cases k
  ·rename_i q2
   have q2:numW 1 GarPlug.SLOTS (w1 (L.getD 0 []) 2)=true:=by simpa using q2
   unfold numW at q2
   simp only [zbt,zde] at q2
   refine ⟨?_,q2.2.1,q2.2.2⟩
   cases e:isName (w1 (L.getD 0 []) 1) with
   | true=>rfl
   | false=>exact absurd (.inr (.inr e)) q
theorem z0S {v:String}{m n:Nat}{ws:List Bytes} (k:fRow v m n ws=0):(nums ws).length=n∧∀x∈nums ws,x≤m:=by
 unfold fRow at k
 split at k
 ·cases k
 ·split at k
  ·cases k
  ·rename_i q
   split at k
   ·cases k
   ·rename_i q2
    have q:(ws.drop 1).all (numW 0 m)=true:=by simpa using q
    unfold nums
    refine ⟨by rw [zlm,List.length_drop];lia,fun x hx=>?_⟩
    obtain ⟨b,hb,rfl⟩:=List.mem_map.mp hx
    have:=List.all_eq_true.mp q b hb
    unfold numW at this
    simp only [zbt,zde] at this
    exact this.2.2
theorem z3V {ws names:List Bytes}{n:Nat} (hn:n≤12) (k:fCar ws names n=0):CarB (uY ws)∧names.length < 6:=by
 unfold fCar at k
 split at k
 ·cases k
 ·rename_i q
  split at k
  ·cases k
  ·rename_i q2
   split at k
   ·cases k
   ·split at k
    ·cases k
    ·rename_i q4
     have q:zZZ ws=true:=by simpa using q
     have q2:Chg.stays (valueOf (w1 ws 2)) (valueOf (w1 ws 3)) n=true:=by simpa using q2
     unfold zZZ Chg.fits at q
     unfold Chg.stays at q2
     simp only [zbt,zde] at q q2
     have q4:¬6≤names.length:=q4
     have f1:valueOf (w1 ws 4)≤99:=q.2.2.1
     have f2:valueOf (w1 ws 5)≤20:=q.2.2.2.2
     exact ⟨⟨zTr q.1.2.2,by show valueOf (w1 ws 2)≤12;lia,by show valueOf (w1 ws 3)≤12;lia,f1,f2⟩,by lia⟩
theorem z3t {L:List (List Bytes)} (h0:0 < L.length) (nf:NF L):DayG (zVC L):=by
 have l4:=z2V nf h0
 obtain ⟨h1,h2,h3⟩:=z17 (L:=L) (by lia) (nf 0 (by lia))
 have k1:=nf 1 (by lia)
 unfold kindAt at k1
 rw [if_neg (by lia),if_neg (by lia),if_pos rfl] at k1
 obtain ⟨r1,r2⟩:=z0S k1
 have k2:=nf 2 (by lia)
 unfold kindAt at k2
 rw [if_neg (by lia),if_neg (by lia),if_neg (by lia),if_pos rfl] at k2
 obtain ⟨r3,r4⟩:=z0S k2
 have kc:∀j,3≤j→j+1 < L.length→CarB (uY (L.getD j []))∧(Chg.namesOf ((L.take j).drop 3)).length < 6:=fun j hj hl=>by
  have k:=nf j (by lia)
  unfold kindAt at k
  rw [if_neg (by lia),if_neg (by lia),if_neg (by lia),if_neg (by lia)] at k
  exact z3V h3 k
 have cl:(zVC L).cars.length≤6:=by
  show ((L.dropLast.drop 3).map uY).length≤6
  rw [zlm,List.length_drop,List.length_dropLast]
  by_cases q:5≤L.length
  ·have:=(kc (L.length-2) (by lia) (by lia)).2
   unfold Chg.namesOf at this
   rw [zlm,List.length_drop,List.length_take] at this
   lia
  ·lia
 refine ⟨⟨zTr h1,by show 1≤(nums (L.getD 1 [])).length;lia,by show (nums (L.getD 1 [])).length≤12;lia,by show (nums (L.getD 2 [])).length=(nums (L.getD 1 [])).length;lia,cl,fun n hn=>by have:=r2 n hn;have e:GarPlug.SUPPLY=60:=rfl;lia,fun n hn=>r4 n hn,fun c hc=>?_⟩,fun n hn=>r2 n hn⟩
 obtain ⟨ws,hws,rfl⟩:=List.mem_map.mp (show c∈(L.dropLast.drop 3).map uY from hc)
 obtain ⟨j,hj⟩:=List.getElem?_of_mem hws
 have hl:=(List.getElem?_eq_some_iff.mp hj).1
 rw [List.length_drop,List.length_dropLast] at hl
 rw [List.getElem?_drop,List.getElem?_dropLast,if_pos (by lia)] at hj
 have:=(kc (3+j) (by lia) (by lia)).1
 rw [List.getD_eq_getElem?_getD,hj] at this
 exact this
theorem z0R {d:Day} (G:DayG d) (c:Nat):DayG (res d (.gone c)).1:=by
 unfold res
 show DayG (match some (if d.cars.length≤c then Except.error (no 4) else .ok ({ d with cars:=d.cars.eraseIdx c },says [d.cars.length-1])) with|some (.ok x)=>x|some (.error a)=>(d,a)|none=>(d,told d (.gone c))).1
 by_cases q:d.cars.length≤c
 ·rw [if_pos q]
  exact G
 ·rw [if_neg q]
  exact ⟨⟨G.name,G.lo,G.hi,G.pr,Nat.le_trans (List.length_eraseIdx_le ..) G.cars,G.sup,G.pri,fun x hx=>G.car x (List.mem_of_mem_eraseIdx hx)⟩,G.s60⟩
theorem zRH {d:Day} (G:DayG d) (k n:Nat):DayG (res d (.supply k n)).1:=by
 unfold res
 show DayG (match some (if d.slots≤k then Except.error (no 4) else if GarPlug.SUPPLY < n then .error (no 1) else .ok (giving d k n,says [])) with|some (.ok x)=>x|some (.error a)=>(d,a)|none=>(d,told d (.supply k n))).1
 by_cases q:d.slots≤k
 ·rw [if_pos q]
  exact G
 ·rw [if_neg q]
  by_cases q2:GarPlug.SUPPLY < n
  ·rw [if_pos q2]
   exact G
  ·rw [if_neg q2]
   have q3:¬60 < n:=q2
   have s:∀m∈d.supply.set k n,m≤60:=fun m hm=>by
    rcases List.mem_or_eq_of_mem_set hm with z|z
    ·exact G.s60 m z
    ·lia
   exact ⟨⟨G.name,by show 1≤(d.supply.set k n).length;rw [List.length_set];exact G.lo,by show (d.supply.set k n).length≤12;rw [List.length_set];exact G.hi,by show d.price.length=(d.supply.set k n).length;rw [List.length_set];exact G.pr,G.cars,fun m hm=>Nat.le_trans (s m hm) (by decide),G.pri,G.car⟩,s⟩
theorem zQX {d:Day} (G:DayG d) (k n:Nat):DayG (res d (.price k n)).1:=by
 unfold res
 show DayG (match some (if d.slots≤k then Except.error (no 4) else if GarPlug.PRICE < n then .error (no 1) else .ok ({ d with price:=d.price.set k n },says [])) with|some (.ok x)=>x|some (.error a)=>(d,a)|none=>(d,told d (.price k n))).1
 by_cases q:d.slots≤k
 ·rw [if_pos q]
  exact G
 ·rw [if_neg q]
  by_cases q2:GarPlug.PRICE < n
  ·rw [if_pos q2]
   exact G
  ·rw [if_neg q2]
   have q3:¬999 < n:=q2
   exact ⟨⟨G.name,G.lo,G.hi,by show (d.price.set k n).length=d.supply.length;rw [List.length_set];exact G.pr,G.cars,G.sup,fun m hm=>by
    rcases List.mem_or_eq_of_mem_set hm with z|z
    ·exact G.pri m z
    ·lia,G.car⟩,G.s60⟩
theorem z12 {d:Day} (G:DayG d) (a b n r:Nat) (x:Bytes):DayG (res d (.car a b n r x)).1:=by
 rw [z0h G.cars]
 by_cases q:(⟨x,a,b,n,r⟩:Car).ok d.slots=false
 ·rw [if_pos q]
  exact G
 ·rw [if_neg q]
  by_cases q2:idxOf d x=6
  ·rw [if_pos q2]
   exact G
  ·rw [if_neg q2]
   have q:(⟨x,a,b,n,r⟩:Car).ok d.slots=true:=by simpa using q
   unfold Car.ok within at q
   simp only [zbt,zde] at q
   have h12:=G.hi
   have qt:b≤d.supply.length:=q.2.2.1
   have cB:CarB ⟨x,a,b,n,r⟩:=⟨zTr q.1,by show a≤12;have:=q.2.1;lia,by show b≤12;lia,q.2.2.2.1.2,q.2.2.2.2.2⟩
   have il:idxOf d x≤d.cars.length:=List.findIdx_le_length
   have h6:=G.cars
   refine ⟨⟨G.name,G.lo,G.hi,G.pr,?_,G.sup,G.pri,fun c hc=>?_⟩,G.s60⟩
   ·show (putAt d ⟨x,a,b,n,r⟩).length≤6
    unfold putAt
    rw [zla,zla,List.length_take,List.length_drop]
    show min (idxOf d x) d.cars.length+1+(d.cars.length-(idxOf d x+1))≤6
    lia
   ·have hc:c∈putAt d ⟨x,a,b,n,r⟩:=hc
    unfold putAt at hc
    rcases List.mem_append.mp hc with z|z
    ·rcases List.mem_append.mp z with z|z
     ·exact G.car c (List.mem_of_mem_take z)
     ·rw [List.mem_singleton.mp z]
      exact cB
    ·exact G.car c (List.mem_of_mem_drop z)
theorem z3e {d:Day} (G:DayG d) (cl:Nat) (ns:List Nat) (x:Bytes):DayG (res d (zS8 cl ns x)).1:=by
 unfold zS8
 split
 ·exact z12 G ..
 ·split
  ·exact z0R G _
  ·split
   ·exact zRH G ..
   ·exact zQX G ..
open PySem PySem.Spec PyProof.Rows L2
open GarText (Bytes isName valueOf)
open GarPlug (Car Day within readDay)
open GarLoad
open WqgarjSpec (told says no counted change putCar)
open Chg (lns kindAt zVC FF NF)
def zZq (F:Addr→Prop) (t:Adr) (H:Hp) (pk:Addr) (od:Option Day):Prop:=∃dx v,H pk=some (.ins t.CP dx [("day", v)])∧F pk∧match od with
 | none=>v=.non
 | some d=>DayG d∧∃a,v=.ref a∧v9 F t H a d
theorem zZq.sm {F:Addr→Prop}{t:Adr}{H H':Hp}{pk:Addr}{od:Option Day} (h:zZq F t H pk od) (S:Sm (Ts t) H H'):zZq F t H' pk od:=by
 obtain ⟨dx,v,h1,h2,h3⟩:=h
 refine ⟨dx,v,S.keep _ _ h1 z0,h2,?_⟩
 cases od with
 | none=>exact h3
 | some d=>
  obtain ⟨G,a,e,hd⟩:=h3
  exact ⟨G,a,e,hd.sm S⟩
structure KpP (t:Adr) (F:Addr→Prop) (H H':Hp):Prop where
 keep:∀x o,H x=some o→Plain o→¬F x→H' x=some o
 tabs:TabsOk (Ts t) H→TabsOk (Ts t) H'
theorem KpP.of {t:Adr}{F:Addr→Prop}{H H':Hp} (S:Sm (Ts t) H H'):KpP t F H H':=⟨fun x o h p _=>S.keep x o h p,S.ok⟩
theorem Kp.p {t:Adr}{F:Addr→Prop}{H H':Hp} (k:Kp t F H H'):KpP t F H H':=⟨fun x o h p q=>k.keep x o h p (.inl q),k.tabs⟩
theorem KpP.trans {t:Adr}{F:Addr→Prop}{H H1 H2:Hp} (a:KpP t F H H1) (b:KpP t F H1 H2):KpP t F H H2:=⟨fun x o h p q=>b.keep x o (a.keep x o h p q) p q,fun T=>b.tabs (a.tabs T)⟩
theorem v9.updPk {F:Addr→Prop}{t:Adr}{H:Hp}{pk a C dx:Addr}{f:Str}{v:V}{o:HO}{d:Day} (hp:H pk=some (.ins C dx [(f,v)])) (h:v9 F t H a d):v9 F t (upd H pk o) a d:=by
 obtain ⟨dx',nm,sp,pr,cs,as,h1,h2,h3,h4,h5,h6,h7⟩:=h
 have ne:∀{x:Addr}{xs:List V},H x=some (.lst xs)→x≠pk:=fun {x xs} e z=>by
  rw [z,hp] at e
  cases e
 have na:a≠pk:=fun z=>by
  rw [z,hp] at h1
  have e:[(f,v)]=dayF nm sp pr cs:=by injection (zsi h1)
  exact absurd (congrArg List.length e) (show ¬(1=4) by decide)
 refine ⟨dx',nm,sp,pr,cs,as,by rw [zP na];exact h1,by unfold IL;rw [zP (ne h2)];exact h2,by unfold IL;rw [zP (ne h3)];exact h3,by unfold IL;rw [zP (ne h4)];exact h4,by unfold RefL;rw [zP (ne h5)];exact h5,h6.imp fun x c hc=>?_,h7⟩
 obtain ⟨dx2,nm2,e1,e2,e3⟩:=hc
 have nx:x≠pk:=fun z=>by
  rw [z,hp] at e1
  have e:[(f,v)]=carF nm2 c:=by injection (zsi e1)
  exact absurd (congrArg List.length e) (show ¬(1=5) by decide)
 exact ⟨dx2,nm2,by rw [zP nx];exact e1,by unfold IL;rw [zP (ne e2)];exact e2,e3⟩
theorem z3S {L:List (List Bytes)}{i q i' q':Nat} (h:FF L i q) (h':FF L i' q'):i=i'∧q=q':=by
 have e:i=i':=by
  rcases Nat.lt_trichotomy i i' with z|z|z
  ·have:=h'.clean i z
   rw [h.is] at this
   exact absurd this h.ne
  ·exact z
  ·have:=h.clean i' z
   rw [h'.is] at this
   exact absurd this h'.ne
 subst e
 exact ⟨rfl,h.is.symm.trans h'.is⟩
theorem z3m {b:Bytes}{ns:List Nat} (h:FRes (lns b) ns):(∃i q,ns=[i,q]∧readDay b=.error (q,i))∨(ns=[]∧NF (lns b)∧readDay b=.ok (zVC (lns b))):=by
 rcases h with ⟨i,q,f,e⟩|⟨nf,e⟩
 ·rcases Chg.z35 b with ⟨i',q',r,f'⟩|⟨r,nf⟩
  ·obtain ⟨rfl,rfl⟩:=z3S f f'
   exact .inl ⟨i,q,e,r⟩
  ·have:=nf i f.lt
   rw [f.is] at this
   exact absurd this f.ne
 ·rcases Chg.z35 b with ⟨i',q',r,f'⟩|⟨r,_⟩
  ·have:=nf i' f'.lt
   rw [f'.is] at this
   exact absurd this f'.ne
  ·exact .inr ⟨e,nf,r⟩
section
variable {P:Program}{w:World}{K:Fg}{mg:Str→Option Value}{base:Heap}{t:Adr}
abbrev z3j (t:Adr) (F:Addr→Prop) (H:Hp) (Q:VK) (pk:Addr) (r:Option Day×List Int):Prop:=∀b H',KpP t F H H'→H b=none→IL H' b r.2→zZq F t H' pk r.1→Q (.ref b) H'
inductive z0Y (t:Adr) (a:V) (c:V) (H:Hp) (Q:VK):Prop
 | mk (pk:Addr) (F:Addr→Prop) (od:Option Day) (b:Bytes) (_:a=.ref pk) (_:zVb c H b) (_:zZq F t H pk od) (_:(∀x,H x=none→F x)) (_:z3j t F H Q pk (WqgarjSpec.step od (.load b))):z0Y t a c H Q
theorem z2g (T:Txt K mg t):Own P w K mg base 7 "load" ["park", "text"] (Sp2 (z0Y t)):=by
 refine own2 T.d_load zRy fun a c H Q h f cdv A outer s E hr=>?_
 obtain ⟨pk,F,od,b,rfl,⟨r,rfl,hr0,hl⟩,hpk,hF,k0⟩:=h
 refine ⟨_,(zW (yO (z8 zT1 (y8 K T.b_len (zZ (pv 1) zY)) (z5 T.g_MOST_BYTES) (z9 _)) (zV (zQ (yX (zZ (z5 T.g_TOO_LONG) zY)))) z7)
   (zW (yY (i:=2) zRy.nd (zS (zSP T) hr.o (zZ (pv 1) zY)))
   (zW (yY (i:=3) zRy.nd (zS (zUG T) hr.o (zZ (pv 2) zY)))
   (zW (yO (z8 zT1 (y8 K T.b_len (zZ (pv 3) zY)) z3 (z9 _)) (zV (zQ (yQ v5 (yX (zZ (z5 T.g_FAULT) zY)) (pv 3)))) z7)
   (zW (zZ0 (pv 0) (zS (zQH T) hr.o (zZ (pv 2) zY)) rfl)
   (zV (zQ (yX (zZ z3 (zZ (y8 K T.b_len (zZ (zR K (zR K (pv 0) rfl) rfl) zY)) (zZ (y8 K T.b_len (zZ (zR K (zR K (pv 0) rfl) rfl) zY)) zY))))))))))),?_⟩
 have k0:z3j t F H Q pk (if WqgarjSpec.TEXT < b.length then (od,no 2) else (match readDay b with
  | .error e=>(od,WqgarjSpec.fault e)
  | .ok d=>(some d,says [d.slots,d.cars.length]))):=k0
 refine ⟨_,rfl,lenI hr0 ⟨_,_,rfl,rfl,_,rfl,itP (fun z=>?_) fun z=>?_⟩⟩
 ·have z:(2048:Int) < ((zb b).length:Int):=z
  rw [xT] at z
  rw [if_pos (show WqgarjSpec.TEXT < b.length by show 2048 < b.length;lia)] at k0
  exact ⟨sz rfl,fun C hC=>k0 C _ (.of (Sm.new hC)) hC zX (hpk.sm (Sm.new hC))⟩
 ·have z:¬(2048:Int) < ((zb b).length:Int):=z
  rw [xT] at z
  rw [if_neg (show ¬WqgarjSpec.TEXT < b.length by show ¬2048 < b.length;lia)] at k0
  have sml:=z1u (b:=b) (by lia)
  refine ⟨_,rfl,_,rfl,b,F,⟨r,rfl,hr0,hl⟩,hF,fun L H1 S1 nL hL=>?_⟩
  refine ⟨_,rfl,_,rfl,L,lns b,rfl,hL.ll,sml,fun ns hns D H2 S2 nD hD=>?_⟩
  have S02:=S1.trans S2
  refine ⟨_,rfl,lenI hD ⟨_,_,rfl,rfl,_,rfl,?_⟩⟩
  rcases z3m hns with ⟨i,q,rfl,rd⟩|⟨rfl,nf,rd⟩
  ·rw [rd] at k0
   refine ⟨sz rfl,fun C hC=>?_⟩
   have SC:Sm (Ts t) H2 (upd H2 C (.lst [V.int (-6)])):=Sm.new hC
   have iC:IL (upd H2 C (.lst [V.int (-6)])) C [-6]:=zX
   exact ⟨_,rfl,catI iC (hD.sm (t:=t) SC) (Nat.le_of_ble_eq_true rfl) fun Z hZ=>k0 Z _ (.of ((S02.trans SC).add hZ)) ((S02.trans SC).free hZ) zX (hpk.sm ((S02.trans SC).add hZ))⟩
  ·rw [rd] at k0
   have l0:0 < (lns b).length:=by
    have:=Chg.zV8 GarText.LF b
    unfold lns
    rw [zlm]
    exact List.length_pos_iff.mpr this
   refine ⟨_,rfl,_,rfl,L,lns b,F,rfl,hL.sm S2,sml,l0,nf,fun x hx=>hF x (S02.free hx),fun x H3 S3 nx hd=>?_⟩
   have S03:=S02.trans S3
   obtain ⟨dx,v,g1,g2,_⟩:=hpk
   have g3:=S03.keep _ _ g1 z0
   refine ⟨_,rfl,pk,_,dx,_,rfl,g3,T.k_Park.cl,T.k_Park.no _ (by decide +kernel),Nat.le_of_ble_eq_true rfl,?_⟩
   have ep:putF "day" (.ref x) [(("day" : Str),v)]=[(("day" : Str),V.ref x)]:=rfl
   rw [ep]
   have hd4:v9 F t (upd H3 pk (.ins t.CP dx [(("day" : Str),V.ref x)])) x (zVC (lns b)):=hd.updPk g3
   have g4:upd H3 pk (.ins t.CP dx [(("day" : Str),V.ref x)]) pk=some (.ins t.CP dx [(("day" : Str),V.ref x)]):=zX
   have k4:KpP t F H (upd H3 pk (.ins t.CP dx [(("day" : Str),V.ref x)])):=(KpP.of S03).trans ⟨fun y o e p q=>by
    rw [zP fun z=>q (by rw [z];exact g2)]
    exact e,zYb (.inr ⟨_,g3,z0,fun f z=>by cases z⟩)⟩
   have fr:∀C,upd H3 pk (.ins t.CP dx [(("day" : Str),V.ref x)]) C=none→H C=none:=fun C hC=>by
    by_cases e:C=pk
    ·rw [e,zX] at hC
     cases hC
    ·rw [zP e] at hC
     exact S03.free hC
   generalize upd H3 pk (.ins t.CP dx [(("day" : Str),V.ref x)])=H4 at *
   have pkF:∀{Q':VK},Q' (.ref x) H4→FldI K "day" (.ref pk) H4 Q':=fun {Q'} q=>⟨pk,_,dx,_,_,rfl,g4,T.k_Park.cl,T.k_Park.no _ (by decide +kernel),rfl,q⟩
   refine ⟨_,rfl,pkF (zUj T hd4.r fun sp hsp=>lenI hsp ⟨_,rfl,pkF (zQg T hd4.r fun cs hcs=>lenC hcs ⟨sz rfl,fun C hC=>?_⟩)⟩)⟩
   refine k0 C _ (k4.trans (.of (Sm.new hC))) (fr C hC) ?_ (zZq.sm (t:=t) ⟨dx,_,g4,g2,z3t l0 nf,x,rfl,hd4⟩ (Sm.new hC))
   show upd _ C _ C=_
   rw [zX,z6]
   rfl
end
open PySem PySem.Spec PyProof.Rows L2
open GarText (Bytes isName valueOf)
open GarPlug (Car Day within readDay)
open GarLoad
open WqgarjSpec (told says no counted change putCar)
def byt (u:List Nat):Bytes:=u.map fun (n:Nat)=>UInt8.ofNat n
theorem z27 {u:List Nat} (h:∀n∈u,n≤255):zb (byt u)=zn u:=by
 unfold zb byt zn
 rw [List.map_map]
 refine List.map_congr_left fun n hn=>?_
 show (((UInt8.ofNat n).toNat:Nat):Int)=(n:Int)
 have:=h n hn
 rw [UInt8.toNat_ofNat_of_lt' (Nat.lt_of_le_of_lt this (by decide))]
def isCh (cl:Nat) (ns:List Nat):Prop:=(cl=1∧ns.length=4)∨(cl=2∧ns.length=1)∨(cl=3∧ns.length=2)∨(cl=4∧ns.length=2)
def isPl (cl:Nat):Prop:=cl=9∨cl=10∨cl=11
def isOn (cl:Nat):Prop:=cl=15∨cl=16∨cl=17∨cl=18∨cl=19
def isTe (cl:Nat):Prop:=cl=5∨cl=6∨cl=7∨cl=8∨cl=12∨cl=13∨cl=14
inductive Cal (cl:Nat) (ns u:List Nat):WqgarjSpec.Call→Prop
 | load:cl=0→(∀n∈u,n≤255)→u.length≤5000→Cal cl ns u (.load (byt u))
 | ch:isCh cl ns→(∀n∈u,n≤255)→u.length≤5000→Cal cl ns u (zS8 cl ns (byt u))
 | pl:isPl cl→Cal cl ns u (zXi cl)
 | on:isOn cl→ns.length=1→Cal cl ns u (zRh cl (ns.getD 0 0))
 | te:isTe cl→u.length≤100→Cal cl ns u (zRZ cl u)
theorem z0I {c:WqgarjSpec.Call} (h:∀b,c≠.load b):WqgarjSpec.step none c=(none,no 3):=by
 cases c<;>first|rfl|exact absurd rfl (h _)
theorem z1A {c:WqgarjSpec.Call}{d:Day} (h:∀b,c≠.load b):WqgarjSpec.step (some d) c=(some (res d c).1,(res d c).2):=by
 unfold res
 have e:WqgarjSpec.step (some d) c=(match change d c with
   | some (.ok x)=>(some x.1,x.2)
   | some (.error a)=>(some d,a)
   | none=>(some d,told d c)):=by
  cases c<;>first|rfl|exact absurd rfl (h _)
 rw [e]
 cases change d c with
 | none=>rfl
 | some r=>
  cases r with
  | error a=>rfl
  | ok x=>rfl
theorem z2o {c:WqgarjSpec.Call}{d:Day} (h:change d c=none):res d c=(d,told d c):=by
 unfold res
 rw [h]
section
variable {P:Program}{w:World}{K:Fg}{mg:Str→Option Value}{base:Heap}{t:Adr}
inductive zW7 (t:Adr) (a:V) (b:V) (e:V) (g:V) (H:Hp) (Q:VK):Prop
 | mk (pk nb r:Addr) (F:Addr→Prop) (od:Option Day) (cl:Nat) (ns u:List Nat) (c:WqgarjSpec.Call) (_:a=.ref pk) (_:b=.int cl) (_:e=.ref nb) (_:g=.ref r) (_:zZq F t H pk od) (_:TabsOk (Ts t) H) (_:IL H nb (zn ns)) (_:IL H r (zn u)) (_:F r) (_:(∀dx a,H pk=some (.ins t.CP dx [("day", .ref a)])→Ap t H a r)) (_:(∀x,H x=none→F x)) (_:Cal cl ns u c) (_:z3j t F H Q pk (WqgarjSpec.step od c)):zW7 t a b e g H Q
theorem zTJ (T:TxtB K mg base t):Own P w K mg base 15 "answer_of" ["park", "call", "numbers", "row"] (Sp4 (zW7 t)):=by
 refine own4 T.d_answer_of zT5 fun a b e g H Q h f cdv A outer s E hr=>?_
 obtain ⟨pk,nb,r,F,od,cl,ns,u,c,rfl,rfl,rfl,rfl,hpk,tab,hnb,hr0,Fr,ap,hF,hc,k0⟩:=h
 refine ⟨_,(zW (yO (z8 u5 (pv 1) (z5 T.g_LOAD) (z9 _)) (zV (zQ (zS (z2g T.toTxt) hr.o (zZ (pv 0) (zZ (pv 3) zY))))) z7)
   (zW (yO (z8 z4G (zR K (pv 0) rfl) z29 (z9 _)) (zV (zQ (yX (zZ (z5 T.g_NO_DAY) zY)))) z7)
   (zW (yO (z8 zVA (pv 1) (z5 T.g_PRICE) (z9 _)) (zV (zQ (zS (zXq T.toTxt) hr.o (zZ (zR K (pv 0) rfl) (zZ (pv 1) (zZ (pv 2) (zZ (pv 3) zY))))))) z7)
   (zW (yO (z8 (zSk) (pv 1) (zR4 (zZ (z5 T.g_PLAN) (zZ (z5 T.g_LOADS) (zZ (z5 T.g_PROOF) zY)))) rfl) (zV (zQ (zS (zWn T) hr.o (zZ (zR K (pv 0) rfl) (zZ (pv 1) zY))))) z7)
   (zW (yO (z8 zRz (pv 1) (z5 T.g_SPARE) (z9 _)) (zV (zQ (zS (zWV T) hr.o (zZ (zR K (pv 0) rfl) (zZ (pv 1) (zZ (yP (z4 K) (pv 2) z3 (fun _ _=>rfl)) zY)))))) z7)
   (zV (zQ (zS (zY1 T) hr.o (zZ (zR K (pv 0) rfl) (zZ (pv 1) (zZ (pv 3) zY))))))))))),?_⟩
 have hpk0:=hpk
 obtain ⟨dx,v,g1,g2,g3⟩:=hpk
 have pkF:∀{Q':VK},Q' v H→FldI K "day" (.ref pk) H Q':=fun {Q'} q=>⟨pk,_,dx,_,_,rfl,g1,T.k_Park.cl,T.k_Park.no _ (by decide +kernel),rfl,q⟩
 by_cases c0:cl=0
 ·subst c0
  cases hc with
  | load _ hb hl=>exact ⟨_,rfl,rfl,_,rfl,_,rfl,_,rfl,_,_,rfl,pk,F,od,byt u,rfl,⟨r,rfl,by rw [z27 hb];exact hr0,by unfold byt;rw [zlm];exact hl⟩,hpk0,hF,k0⟩
  | ch h=>rcases h with ⟨h,_⟩|⟨h,_⟩|⟨h,_⟩|⟨h,_⟩<;>cases h
  | pl h=>rcases h with h|h|h<;>cases h
  | on h=>rcases h with h|h|h|h|h<;>cases h
  | te h=>rcases h with h|h|h|h|h|h|h<;>cases h
 ·refine ⟨_,rfl,rfl,_,rfl,itB (fun z=>absurd (Int.ofNat.inj (iEq z:((cl:Nat):Int)=((0:Nat):Int))) c0) fun z=>?_⟩
  clear z
  have nl:∀b,c≠.load b:=by
   intro b
   cases hc with
   | load h=>exact absurd h c0
   | ch h=>rcases h with ⟨rfl,_⟩|⟨rfl,_⟩|⟨rfl,_⟩|⟨rfl,_⟩<;>exact fun e=>by cases e
   | pl h=>rcases h with rfl|rfl|rfl<;>exact fun e=>by cases e
   | on h=>rcases h with rfl|rfl|rfl|rfl|rfl<;>exact fun e=>by cases e
   | te h=>rcases h with rfl|rfl|rfl|rfl|rfl|rfl|rfl<;>exact fun e=>by cases e
  cases od with
  | none=>
   have g3:v=.non:=g3
   subst g3
   rw [z0I nl] at k0
   exact ⟨_,rfl,pkF ⟨rfl,_,rfl,sz rfl,fun C hC=>k0 C _ (.of (Sm.new hC)) hC zX (hpk0.sm (Sm.new hC))⟩⟩
  | some d=>
   obtain ⟨G,a,ev,hd⟩:=(g3:DayG d∧∃a,v=.ref a∧v9 F t H a d)
   subst ev
   rw [z1A nl] at k0
   have hdr:=hd.r
   refine ⟨_,rfl,pkF ⟨rfl,_,rfl,?_⟩⟩
   have kR:change d c=none→RZ t H Q (told d c):=fun hn b H' S nb hb=>by
    rw [z2o hn] at k0
    exact k0 b H' (.of S) nb hb (hpk0.sm S)
   have U0:∀U,H U=none→∃HU,HU=upd H U (.tup [V.int 9,V.int 10,V.int 11])∧Sm (Ts t) H HU∧SqT K HU U [V.int 9,V.int 10,V.int 11]∧∀{Q':VK},Q' (.ref a) HU→FldI K "day" (.ref pk) HU Q':=fun U hU=>⟨_,rfl,Sm.new hU,.inl (.inl zX),fun {Q'} q=>⟨pk,_,dx,_,_,rfl,(Sm.new (Ts:=Ts t) hU).keep _ _ g1 z0,T.k_Park.cl,T.k_Park.no _ (by decide +kernel),rfl,q⟩⟩
   cases hc with
   | load h=>exact absurd h c0
   | ch h hb hl=>
    have hx:IL H r (zb (byt u)):=by
     rw [z27 hb]
     exact hr0
    have post:Post t F H Q a (res d (zS8 cl ns (byt u))):=fun b H' kp nb hb hd'=>k0 b H' kp.p nb hb ⟨dx,_,kp.keep _ _ g1 z0 (.inr ⟨_,_,_,_,rfl⟩),g2,z3e G cl ns (byt u),a,rfl,hd'⟩
    have lx:(byt u).length≤5000:=by
     unfold byt
     rw [zlm]
     exact hl
    have h2:=h
    rcases h with ⟨rfl,_⟩|⟨rfl,_⟩|⟨rfl,_⟩|⟨rfl,_⟩<;>exact ⟨_,rfl,_,_,rfl,rfl,_,rfl,_,rfl,pkF ⟨_,rfl,_,rfl,_,rfl,_,_,_,_,rfl,a,nb,r,F,d,_,ns,byt u,rfl,rfl,rfl,rfl,hd,G,hnb,hx,lx,Fr,ap _ _ g1,hF,h2,post⟩⟩
   | pl h=>
    have h2:=h
    rcases h with rfl|rfl|rfl
    all_goals
     refine ⟨_,rfl,_,_,rfl,rfl,_,rfl,_,rfl,sz rfl,fun U hU=>?_⟩
     obtain ⟨HU,eU,SU,tU,pkU⟩:=U0 U hU
     rw [←eU]
     exact ⟨U,_,rfl,.inr tU,rfl,rfl,_,rfl,_,rfl,pkU ⟨_,rfl,_,_,rfl,a,d,_,rfl,rfl,hdr.sm SU,G,SU.ok tab,h2,fun b H' S nb hb=>kR rfl b H' (SU.trans S) (SU.free nb) hb⟩⟩
   | on h hn=>
    have h2:=h
    match ns,hn with
    | [k],_=>
    rcases h with rfl|rfl|rfl|rfl|rfl
    all_goals
     refine ⟨_,rfl,_,_,rfl,rfl,_,rfl,_,rfl,sz rfl,fun U hU=>?_⟩
     obtain ⟨HU,eU,SU,tU,pkU⟩:=U0 U hU
     rw [←eU]
     exact ⟨U,_,rfl,.inr tU,rfl,rfl,_,rfl,_,rfl,_,_,rfl,rfl,_,rfl,_,rfl,pkU ⟨_,rfl,_,rfl,jW (k:=0) (hnb.sm SU) rfl ⟨_,_,_,rfl,a,d,_,k,rfl,rfl,rfl,hdr.sm SU,G,SU.ok tab,h2,fun b H' S nb hb=>kR rfl b H' (SU.trans S) (SU.free nb) hb⟩⟩⟩
   | te h hl=>
    have h2:=h
    rcases h with rfl|rfl|rfl|rfl|rfl|rfl|rfl
    all_goals
     refine ⟨_,rfl,_,_,rfl,rfl,_,rfl,_,rfl,sz rfl,fun U hU=>?_⟩
     obtain ⟨HU,eU,SU,tU,pkU⟩:=U0 U hU
     rw [←eU]
     exact ⟨U,_,rfl,.inr tU,rfl,rfl,_,rfl,_,rfl,_,_,rfl,rfl,_,rfl,_,rfl,pkU ⟨_,rfl,_,rfl,_,_,_,rfl,a,d,_,u,rfl,rfl,⟨r,rfl,hr0.sm SU,by lia⟩,hl,hdr.sm SU,G,SU.ok tab,h2,fun b H' S nb hb=>kR rfl b H' (SU.trans S) (SU.free nb) hb⟩⟩
end
open PySem PySem.Spec PyProof.Rows L2
open GarText (Bytes)
open GarPlug (Car Day)
open GarLoad
open WqgarjSpec (told says no counted change putCar)
def NUMN:List Nat:=[0,4,1,2,2,0,0,0,0,0,0,0,0,0,0,1,1,1,1,1]
def ROWN:List Nat:=[1,1,0,0,0,0,0,1,0,0,0,0,1,1,0,0,0,0,0,0]
theorem w32 {z:Int} (h:WqgarjNeutral.whole32 z=true):∃n:Nat,(n:Int)=z:=by
 unfold WqgarjNeutral.whole32 at h
 rw [zbt,zde] at h
 exact ⟨z.toNat,Int.toNat_of_nonneg h.1⟩
theorem lng {r:List Int}{n:Nat}{hi:Int} (h:WqgarjNeutral.long r n 0 hi=true):∃u:List Nat,zn u=r∧u.length≤n∧∀x∈u,(x:Int)≤hi:=by
 unfold WqgarjNeutral.long at h
 rw [zbt,zde,List.all_eq_true] at h
 have nn:∀z∈r,0≤z∧z≤hi:=fun z hz=>by
  have:=h.2 z hz
  rw [zbt,zde,zde] at this
  exact this
 refine ⟨r.map Int.toNat,?_,by rw [zlm];exact h.1,fun x hx=>?_⟩
 ·unfold zn
  rw [List.map_map]
  conv=>rhs;rw [←List.map_id r]
  exact List.map_congr_left fun z hz=>Int.toNat_of_nonneg (nn z hz).1
 ·obtain ⟨z,hz,rfl⟩:=List.mem_map.mp hx
  have:=nn z hz
  lia
theorem zQc (u:List Nat):WqgarjNeutral.bytes (zn u)=byt u:=by
 unfold WqgarjNeutral.bytes zn byt
 rw [List.map_map]
 rfl
theorem zRG (u:List Nat):WqgarjNeutral.nats (zn u)=u:=by
 unfold WqgarjNeutral.nats zn
 rw [List.map_map]
 conv=>rhs;rw [←List.map_id u]
 rfl
theorem zQR {p:Int}{a:List Int}{xs:List (List Int)} (h:PyWqgarj.shape p=some (a.length,xs.length)) (b:WqgarjNeutral.asked1 (PyWqgarj.whole ((p::a)::xs))=true):
  ∃(cl:Nat) (ns u:List Nat) (c:WqgarjSpec.Call),(p::a)::xs=((cl:Int)::zn ns)::(if ROWN.getD cl 0=1 then [zn u] else [])∧cl < 20∧ns.length=NUMN.getD cl 0∧(ROWN.getD cl 0≠1→u=[])∧Cal cl ns u c∧WqgarjNeutral.callOf (PyWqgarj.whole ((p::a)::xs))=some c:=by
 unfold PyWqgarj.shape at h
 by_cases q0:p=0
 ·rw [if_pos q0] at h
  subst q0
  have ha:a.length=0:=(congrArg Prod.fst (zsi h)).symm
  have hx:xs.length=1:=(congrArg Prod.snd (zsi h)).symm
  match a,xs,ha,hx,b with
  | [],[r0],_,_,b=>
   have wl:WqgarjNeutral.long r0 1500 0 255=true:=b
   obtain ⟨u,rfl,lu,bu⟩:=lng wl
   exact ⟨0,[],u,_,rfl,by decide,rfl,fun z=>absurd rfl z,.load rfl (fun n hn=>by have:=bu n hn;lia) (by lia),by
    show some (WqgarjSpec.Call.load _)=some (WqgarjSpec.Call.load _)
    rw [zQc]⟩
 rw [if_neg q0] at h
 by_cases q1:p=1
 ·rw [if_pos q1] at h
  subst q1
  have ha:a.length=4:=(congrArg Prod.fst (zsi h)).symm
  have hx:xs.length=1:=(congrArg Prod.snd (zsi h)).symm
  match a,xs,ha,hx,b with
  | [x0,x1,x2,x3],[r0],_,_,b=>
   have b:(WqgarjNeutral.whole32 x0 && WqgarjNeutral.whole32 x1 && WqgarjNeutral.whole32 x2 && WqgarjNeutral.whole32 x3 && WqgarjNeutral.long r0 40 0 255)=true:=b
   rw [zbt,zbt,zbt,zbt] at b
   obtain ⟨⟨⟨⟨w0,w1⟩,w2⟩,w3⟩,wl⟩:=b
   obtain ⟨y0,rfl⟩:=w32 w0
   obtain ⟨y1,rfl⟩:=w32 w1
   obtain ⟨y2,rfl⟩:=w32 w2
   obtain ⟨y3,rfl⟩:=w32 w3
   obtain ⟨u,rfl,lu,bu⟩:=lng wl
   exact ⟨1,[y0,y1,y2,y3],u,_,rfl,by decide,rfl,fun z=>absurd rfl z,.ch (.inl ⟨rfl,rfl⟩) (fun n hn=>by have:=bu n hn;lia) (by lia),by
    show some (WqgarjSpec.Call.car _ _ _ _ _)=some (WqgarjSpec.Call.car _ _ _ _ _)
    rw [zQc]
    rfl⟩
 rw [if_neg q1] at h
 by_cases q2:p=2
 ·rw [if_pos q2] at h
  subst q2
  have ha:a.length=1:=(congrArg Prod.fst (zsi h)).symm
  have hx:xs.length=0:=(congrArg Prod.snd (zsi h)).symm
  match a,xs,ha,hx,b with
  | [x0],[],_,_,b=>
   have w0:WqgarjNeutral.whole32 x0=true:=b
   obtain ⟨y0,rfl⟩:=w32 w0
   exact ⟨2,[y0],[],_,rfl,by decide,rfl,fun _=>rfl,.ch (.inr (.inl ⟨rfl,rfl⟩)) (fun n hn=>by cases hn) (Nat.zero_le _),rfl⟩
 rw [if_neg q2] at h
 by_cases q3:p=3
 ·rw [if_pos q3] at h
  subst q3
  have ha:a.length=2:=(congrArg Prod.fst (zsi h)).symm
  have hx:xs.length=0:=(congrArg Prod.snd (zsi h)).symm
  match a,xs,ha,hx,b with
  | [x0,x1],[],_,_,b=>
   have b:(WqgarjNeutral.whole32 x0 && WqgarjNeutral.whole32 x1)=true:=b
   rw [zbt] at b
   obtain ⟨w0,w1⟩:=b
   obtain ⟨y0,rfl⟩:=w32 w0
   obtain ⟨y1,rfl⟩:=w32 w1
   exact ⟨3,[y0,y1],[],_,rfl,by decide,rfl,fun _=>rfl,.ch (.inr (.inr (.inl ⟨rfl,rfl⟩))) (fun n hn=>by cases hn) (Nat.zero_le _),rfl⟩
 rw [if_neg q3] at h
 by_cases q4:p=4
 ·rw [if_pos q4] at h
  subst q4
  have ha:a.length=2:=(congrArg Prod.fst (zsi h)).symm
  have hx:xs.length=0:=(congrArg Prod.snd (zsi h)).symm
  match a,xs,ha,hx,b with
  | [x0,x1],[],_,_,b=>
   have b:(WqgarjNeutral.whole32 x0 && WqgarjNeutral.whole32 x1)=true:=b
   rw [zbt] at b
   obtain ⟨w0,w1⟩:=b
   obtain ⟨y0,rfl⟩:=w32 w0
   obtain ⟨y1,rfl⟩:=w32 w1
   exact ⟨4,[y0,y1],[],_,rfl,by decide,rfl,fun _=>rfl,.ch (.inr (.inr (.inr (⟨rfl,rfl⟩)))) (fun n hn=>by cases hn) (Nat.zero_le _),rfl⟩
 rw [if_neg q4] at h
 by_cases q5:p=5
 ·rw [if_pos q5] at h
  subst q5
  have ha:a.length=0:=(congrArg Prod.fst (zsi h)).symm
  have hx:xs.length=0:=(congrArg Prod.snd (zsi h)).symm
  match a,xs,ha,hx,b with
  | [],[],_,_,b=>
   exact ⟨5,[],[],_,rfl,by decide,rfl,fun _=>rfl,.te (by unfold isTe;decide) (Nat.zero_le _),rfl⟩
 rw [if_neg q5] at h
 by_cases q6:p=6
 ·rw [if_pos q6] at h
  subst q6
  have ha:a.length=0:=(congrArg Prod.fst (zsi h)).symm
  have hx:xs.length=0:=(congrArg Prod.snd (zsi h)).symm
  match a,xs,ha,hx,b with
  | [],[],_,_,b=>
   exact ⟨6,[],[],_,rfl,by decide,rfl,fun _=>rfl,.te (by unfold isTe;decide) (Nat.zero_le _),rfl⟩
 rw [if_neg q6] at h
 by_cases q7:p=7
 ·rw [if_pos q7] at h
  subst q7
  have ha:a.length=0:=(congrArg Prod.fst (zsi h)).symm
  have hx:xs.length=1:=(congrArg Prod.snd (zsi h)).symm
  match a,xs,ha,hx,b with
  | [],[r0],_,_,b=>
   have wl:WqgarjNeutral.long r0 80 0 4294967295=true:=b
   obtain ⟨u,rfl,lu,bu⟩:=lng wl
   exact ⟨7,[],u,_,rfl,by decide,rfl,fun z=>absurd rfl z,.te (by unfold isTe;decide) (by lia),by
    show some _=some _
    rw [zRG]
    rfl⟩
 rw [if_neg q7] at h
 by_cases q8:p=8
 ·rw [if_pos q8] at h
  subst q8
  have ha:a.length=0:=(congrArg Prod.fst (zsi h)).symm
  have hx:xs.length=0:=(congrArg Prod.snd (zsi h)).symm
  match a,xs,ha,hx,b with
  | [],[],_,_,b=>
   exact ⟨8,[],[],_,rfl,by decide,rfl,fun _=>rfl,.te (by unfold isTe;decide) (Nat.zero_le _),rfl⟩
 rw [if_neg q8] at h
 by_cases q9:p=9
 ·rw [if_pos q9] at h
  subst q9
  have ha:a.length=0:=(congrArg Prod.fst (zsi h)).symm
  have hx:xs.length=0:=(congrArg Prod.snd (zsi h)).symm
  match a,xs,ha,hx,b with
  | [],[],_,_,b=>
   exact ⟨9,[],[],_,rfl,by decide,rfl,fun _=>rfl,.pl (by unfold isPl;decide),rfl⟩
 rw [if_neg q9] at h
 by_cases q10:p=10
 ·rw [if_pos q10] at h
  subst q10
  have ha:a.length=0:=(congrArg Prod.fst (zsi h)).symm
  have hx:xs.length=0:=(congrArg Prod.snd (zsi h)).symm
  match a,xs,ha,hx,b with
  | [],[],_,_,b=>
   exact ⟨10,[],[],_,rfl,by decide,rfl,fun _=>rfl,.pl (by unfold isPl;decide),rfl⟩
 rw [if_neg q10] at h
 by_cases q11:p=11
 ·rw [if_pos q11] at h
  subst q11
  have ha:a.length=0:=(congrArg Prod.fst (zsi h)).symm
  have hx:xs.length=0:=(congrArg Prod.snd (zsi h)).symm
  match a,xs,ha,hx,b with
  | [],[],_,_,b=>
   exact ⟨11,[],[],_,rfl,by decide,rfl,fun _=>rfl,.pl (by unfold isPl;decide),rfl⟩
 rw [if_neg q11] at h
 by_cases q12:p=12
 ·rw [if_pos q12] at h
  subst q12
  have ha:a.length=0:=(congrArg Prod.fst (zsi h)).symm
  have hx:xs.length=1:=(congrArg Prod.snd (zsi h)).symm
  match a,xs,ha,hx,b with
  | [],[r0],_,_,b=>
   have wl:WqgarjNeutral.long r0 80 0 4294967295=true:=b
   obtain ⟨u,rfl,lu,bu⟩:=lng wl
   exact ⟨12,[],u,_,rfl,by decide,rfl,fun z=>absurd rfl z,.te (by unfold isTe;decide) (by lia),by
    show some _=some _
    rw [zRG]
    rfl⟩
 rw [if_neg q12] at h
 by_cases q13:p=13
 ·rw [if_pos q13] at h
  subst q13
  have ha:a.length=0:=(congrArg Prod.fst (zsi h)).symm
  have hx:xs.length=1:=(congrArg Prod.snd (zsi h)).symm
  match a,xs,ha,hx,b with
  | [],[r0],_,_,b=>
   have wl:WqgarjNeutral.long r0 80 0 4294967295=true:=b
   obtain ⟨u,rfl,lu,bu⟩:=lng wl
   exact ⟨13,[],u,_,rfl,by decide,rfl,fun z=>absurd rfl z,.te (by unfold isTe;decide) (by lia),by
    show some _=some _
    rw [zRG]
    rfl⟩
 rw [if_neg q13] at h
 by_cases q14:p=14
 ·rw [if_pos q14] at h
  subst q14
  have ha:a.length=0:=(congrArg Prod.fst (zsi h)).symm
  have hx:xs.length=0:=(congrArg Prod.snd (zsi h)).symm
  match a,xs,ha,hx,b with
  | [],[],_,_,b=>
   exact ⟨14,[],[],_,rfl,by decide,rfl,fun _=>rfl,.te (by unfold isTe;decide) (Nat.zero_le _),rfl⟩
 rw [if_neg q14] at h
 by_cases q15:p=15
 ·rw [if_pos q15] at h
  subst q15
  have ha:a.length=1:=(congrArg Prod.fst (zsi h)).symm
  have hx:xs.length=0:=(congrArg Prod.snd (zsi h)).symm
  match a,xs,ha,hx,b with
  | [x0],[],_,_,b=>
   have w0:WqgarjNeutral.whole32 x0=true:=b
   obtain ⟨y0,rfl⟩:=w32 w0
   exact ⟨15,[y0],[],_,rfl,by decide,rfl,fun _=>rfl,.on (by unfold isOn;decide) rfl,rfl⟩
 rw [if_neg q15] at h
 by_cases q16:p=16
 ·rw [if_pos q16] at h
  subst q16
  have ha:a.length=1:=(congrArg Prod.fst (zsi h)).symm
  have hx:xs.length=0:=(congrArg Prod.snd (zsi h)).symm
  match a,xs,ha,hx,b with
  | [x0],[],_,_,b=>
   have w0:WqgarjNeutral.whole32 x0=true:=b
   obtain ⟨y0,rfl⟩:=w32 w0
   exact ⟨16,[y0],[],_,rfl,by decide,rfl,fun _=>rfl,.on (by unfold isOn;decide) rfl,rfl⟩
 rw [if_neg q16] at h
 by_cases q17:p=17
 ·rw [if_pos q17] at h
  subst q17
  have ha:a.length=1:=(congrArg Prod.fst (zsi h)).symm
  have hx:xs.length=0:=(congrArg Prod.snd (zsi h)).symm
  match a,xs,ha,hx,b with
  | [x0],[],_,_,b=>
   have w0:WqgarjNeutral.whole32 x0=true:=b
   obtain ⟨y0,rfl⟩:=w32 w0
   exact ⟨17,[y0],[],_,rfl,by decide,rfl,fun _=>rfl,.on (by unfold isOn;decide) rfl,rfl⟩
 rw [if_neg q17] at h
 by_cases q18:p=18
 ·rw [if_pos q18] at h
  subst q18
  have ha:a.length=1:=(congrArg Prod.fst (zsi h)).symm
  have hx:xs.length=0:=(congrArg Prod.snd (zsi h)).symm
  match a,xs,ha,hx,b with
  | [x0],[],_,_,b=>
   have w0:WqgarjNeutral.whole32 x0=true:=b
   obtain ⟨y0,rfl⟩:=w32 w0
   exact ⟨18,[y0],[],_,rfl,by decide,rfl,fun _=>rfl,.on (by unfold isOn;decide) rfl,rfl⟩
 rw [if_neg q18] at h
 by_cases q19:p=19
 ·rw [if_pos q19] at h
  subst q19
  have ha:a.length=1:=(congrArg Prod.fst (zsi h)).symm
  have hx:xs.length=0:=(congrArg Prod.snd (zsi h)).symm
  match a,xs,ha,hx,b with
  | [x0],[],_,_,b=>
   have w0:WqgarjNeutral.whole32 x0=true:=b
   obtain ⟨y0,rfl⟩:=w32 w0
   exact ⟨19,[y0],[],_,rfl,by decide,rfl,fun _=>rfl,.on (by unfold isOn;decide) rfl,rfl⟩
 rw [if_neg q19] at h
 cases h
open PySem PySem.Spec PyProof.Rows L2
open GarText (Bytes)
open GarPlug (Car Day)
open GarLoad
section
variable {K:Fg}{H:Hp}{a:Addr}{l:List Int}{Q:VK}{σ:L2.St}{t:Adr}
def InL (K:Fg) (H:Hp) (a:Addr) (l:List Int):Prop:=SqL K H a (l.map V.int)
theorem InL.len (h:InL K H a l) (q:Q (.int l.length) H):tNil σ H fun xs H2=>rLen K (.ref a::xs) H2 Q:=⟨a,_,rfl,.inl h,by rw [zlm];exact q⟩
theorem InL.at_ {k:Nat}{z:Int} (h:InL K H a l) (e:l[k]?=some z) (q:Q (.int z) H):rIxL K (.ref a) (.int k) H Q:=⟨a,_,_,_,rfl,rfl,h,zVT (by rw [zgm,e];rfl),q⟩
end
theorem z3h {F:Addr→Prop}{t:Adr}{H H':Hp}{pk r:Addr}{od:Option Day} (h:zZq F t H pk od) (S:Sm (Ts t) H H') (hr:H r=none):∀dx a,H' pk=some (.ins t.CP dx [("day", .ref a)])→Ap t H' a r:=by
 intro dx a e
 obtain ⟨dx',v,h1,_,h3⟩:=h
 rw [S.keep _ _ h1 z0] at e
 have e2:[(("day" : Str),v)]=[(("day" : Str),V.ref a)]:=by injection (zsi e)
 have ev:v=.ref a:=by
  injection e2 with e3
  injection e3
 subst ev
 cases od with
 | none=>cases (h3:V.ref a=.non)
 | some d=>
  obtain ⟨_,a',ea,hd⟩:=(h3:DayG d∧∃a',V.ref a=.ref a'∧v9 F t H a' d)
  cases ea
  obtain ⟨dx2,nm,sp,pr,cs,as,g1,g2,g3,g4,_⟩:=hd
  intro dx3 nm3 sp3 pr3 cs3 e5
  rw [S.keep _ _ g1 z0] at e5
  have e6:dayF nm sp pr cs=dayF nm3 sp3 pr3 cs3:=by injection (zsi e5)
  unfold dayF at e6
  injection e6 with _ e7
  injection e7 with e8 e9
  injection e9 with e10 _
  have esp:sp=sp3:=by
   injection e8 with _ z
   exact V.ref.inj z
  have epr:pr=pr3:=by
   injection e10 with _ z
   exact V.ref.inj z
  subst esp
  subst epr
  exact ⟨(zT g3 hr).symm,(zT g4 hr).symm⟩
theorem z16 {α:Type} (x y:List α):(x++y).take x.length=x:=List.take_left' rfl
theorem z0v (s:Option Day) (c:List (List Int)) (cs:List (List (List Int))):PyFlat.told (PyFlat.played WqgarjNeutral.step s (c::cs))=((WqgarjNeutral.step s c).2.length:Int)::((WqgarjNeutral.step s c).2++PyFlat.told (PyFlat.played WqgarjNeutral.step (WqgarjNeutral.step s c).1 cs)):=by
 show ([((WqgarjNeutral.step s c).2.length:Int)::(WqgarjNeutral.step s c).2]++(PyFlat.played WqgarjNeutral.step (WqgarjNeutral.step s c).1 cs).map _).flatten=_
 rfl
theorem z2L {α:Type} (x:List α) (y:α) (z:List α):(x++y::z)[x.length]?=some y:=by
 rw [List.getElem?_append_right (Nat.le_refl _),Nat.sub_self]
 rfl
theorem zQF {α:Type} (x y z:List α):((x++(y++z)).take (x.length+y.length)).drop x.length=y:=by
 rw [←zaa,←zla,z16,List.drop_left' rfl]
theorem v9.updF {F:Addr→Prop}{t:Adr}{H:Hp}{x a:Addr}{o:HO}{d:Day} (hx:¬F x) (h:v9 F t H a d):v9 F t (upd H x o) a d:=by
 obtain ⟨dx',nm,sp,pr,cs,as,h1,h2,h3,h4,h5,h6,⟨f1,f2,f3,f4,f5⟩,h7⟩:=h
 have ne:∀{y:Addr},F y→y≠x:=fun {y} fy z=>hx (by rw [←z];exact fy)
 refine ⟨dx',nm,sp,pr,cs,as,by rw [zP (ne f1)];exact h1,by unfold IL;rw [zP (ne f2)];exact h2,by unfold IL;rw [zP (ne f3)];exact h3,by unfold IL;rw [zP (ne f4)];exact h4,by unfold RefL;rw [zP (ne f5)];exact h5,h6.imp fun y c hc=>?_,⟨f1,f2,f3,f4,f5⟩,h7⟩
 obtain ⟨dx2,nm2,e1,e2,e3,e4,e5⟩:=hc
 exact ⟨dx2,nm2,by rw [zP (ne e3)];exact e1,by unfold IL;rw [zP (ne e4)];exact e2,e3,e4,e5⟩
theorem zZq.updF {F:Addr→Prop}{t:Adr}{H:Hp}{x pk:Addr}{o:HO}{od:Option Day} (hx:¬F x) (h:zZq F t H pk od):zZq F t (upd H x o) pk od:=by
 obtain ⟨dx,v,h1,h2,h3⟩:=h
 refine ⟨dx,v,by rw [zP fun z=>hx (by rw [←z];exact h2)];exact h1,h2,?_⟩
 cases od with
 | none=>exact h3
 | some d=>
  obtain ⟨G,a,e,hd⟩:=(h3:DayG d∧∃a,v=.ref a∧v9 F t H a d)
  exact ⟨G,a,e,hd.updF hx⟩
section
variable {H:Hp}{l b:Addr}{ns ms:List Int}{z:Int}{Q:VK}{σ:L2.St}
theorem z4b (h:IL H l ns) (hl:ns.length≤10000000) (k:Q .non (upd H l (.lst ((ns++[z]).map V.int)))):tNil σ H fun xs H2=>zUy (.ref l) (.int z::xs) H2 Q:=by
 refine ⟨l,_,_,rfl,rfl,h,by rw [zlm,sizeLine_eq];lia,?_⟩
 rw [List.map_append] at k
 exact k
theorem z4T (h:IL H l ns) (h2:IL H b ms) (hl:ns.length+ms.length≤10000001) (k:Q .non (upd H l (.lst ((ns++ms).map V.int)))):tNil σ H fun xs H2=>zTK (.ref l) (.ref b::xs) H2 Q:=by
 refine ⟨l,b,_,_,rfl,rfl,h,h2,by rw [zlm,zlm,sizeLine_eq];lia,?_⟩
 rw [List.map_append] at k
 exact k
end
def Inp (K:Fg) (p Tl:Addr) (l:List Int) (H:Hp):Prop:=(∀H',InL K H' p l)∨(p≠Tl∧∃o,Plain o∧H p=some o∧∀H',H' p=some o→InL K H' p l)
def Fx (K:Fg) (p Tl:Addr) (l:List Int) (x:Addr):Prop:=x≠Tl∧((∀H',InL K H' p l)∨x≠p)
section
variable {K:Fg}{p Tl:Addr}{l:List Int}{H H':Hp}{t:Adr}
theorem Inp.inl_ (h:Inp K p Tl l H):InL K H p l:=by
 rcases h with h|⟨_,o,_,e,h⟩
 ·exact h H
 ·exact h H e
theorem Inp.sm (h:Inp K p Tl l H) (S:Sm (Ts t) H H'):Inp K p Tl l H':=by
 rcases h with h|⟨n,o,po,e,h⟩
 ·exact .inl h
 ·exact .inr ⟨n,o,po,S.keep _ _ e po,h⟩
theorem Inp.kp (h:Inp K p Tl l H) (k:KpP t (Fx K p Tl l) H H'):Inp K p Tl l H':=by
 rcases h with h|⟨n,o,po,e,h⟩
 ·exact .inl h
 ·by_cases q:∀H',InL K H' p l
  ·exact .inl q
  ·exact .inr ⟨n,o,po,k.keep _ _ e po fun z=>by
    rcases z.2 with y|y
    ·exact q y
    ·exact y rfl,h⟩
theorem Inp.upd {o:HO} (h:Inp K p Tl l H):Inp K p Tl l (upd H Tl o):=by
 rcases h with h|⟨n,u,pu,e,h⟩
 ·exact .inl h
 ·exact .inr ⟨n,u,pu,by rw [zP n];exact e,h⟩
theorem Inp.fresh (h:Inp K p Tl l H) {xs:List V} (hT:H Tl=some (.lst xs)):∀x,H x=none→Fx K p Tl l x:=fun x hx=>by
 refine ⟨(zT hT hx).symm,?_⟩
 rcases h with h|⟨n,o,po,e,h⟩
 ·exact .inl h
 ·exact .inr (zT e hx).symm
end
theorem InL.atz {K:Fg}{H:Hp}{a:Addr}{l:List Int}{Q:VK}{k:Nat}{z i:Int} (h:InL K H a l) (e:l[k]?=some z) (hi:i=(k:Int)) (q:Q (.int z) H):rIxL K (.ref a) (.int i) H Q:=by
 subst hi
 exact h.at_ e q
theorem z4K {l x y z:List Int}{i j:Int} (e:l=x++(y++z)) (hi:i=(x.length:Int)) (hj:j=((x.length+y.length:Nat):Int)):cutV (l.map V.int) (some i) (some j)=y.map V.int:=by
 subst e hi hj
 rw [zTT _ (by rw [zlm,zla,zla];lia),←List.map_take,←List.map_drop,zQF]
theorem z1i {K:Fg}{p Tl:Addr}{l:List Int}:¬Fx K p Tl l Tl:=fun z=>z.1 rfl
def z19 (cs:List (List (List Int))):Prop:=∀c∈cs,PyFlat.okCall PyWqgarj.shape c∧WqgarjNeutral.asked1 (PyWqgarj.whole c)=true
def AnsW (K:Fg) (t:Adr) (p pk Tl:Addr) (l ans:List Int) (m:Nat) (σ:L2.St) (H:Hp):Prop:=
 ∃(pre:List Int) (rest:List (List (List Int))) (s:Option Day) (acc:List Int) (o4 o5 o6 o7 o8:Option V),m=rest.length∧l=pre++PyFlat.put rest∧z19 rest∧σ=[some (.ref p),some (.ref pk),some (.ref Tl),some (.int pre.length),o4,o5,o6,o7,o8]∧Inp K p Tl l H∧TabsOk (Ts t) H∧IL H Tl acc∧zZq (Fx K p Tl l) t H pk s∧acc++PyFlat.told (PyFlat.played WqgarjNeutral.step s (rest.map PyWqgarj.whole))=ans
def z4n (K:Fg) (t:Adr):Sp:=Sp1 fun a H Q=>∃(p:Addr) (l:List Int) (cs:List (List (List Int))),a=.ref p∧InL K H p l∧l=PyFlat.put cs∧z19 cs∧l.length≤10000000∧TabsOk (Ts t) H∧(PyFlat.told (PyFlat.played WqgarjNeutral.step WqgarjNeutral.start (cs.map PyWqgarj.whole))).length≤10000000∧
  ∀b H',IL H' b (PyFlat.told (PyFlat.played WqgarjNeutral.step WqgarjNeutral.start (cs.map PyWqgarj.whole)))→Q (.ref b) H'
section
variable {P:Program}{w:World}{K:Fg}{mg:Str→Option Value}{base:Heap}{t:Adr}
theorem z32 {cl:Nat} (h:cl < 20):atI (([0,4,1,2,2,0,0,0,0,0,0,0,0,0,0,1,1,1,1,1]:List Int).map V.int) (cl:Int)=some (.int (NUMN.getD cl 0:Nat)):=by
 refine zVT ?_
 have e:([0,4,1,2,2,0,0,0,0,0,0,0,0,0,0,1,1,1,1,1]:List Int)=zn NUMN:=rfl
 rw [e,zgm,zVg (n:=NUMN.getD cl 0) (by rw [zge h,Chg.vX h])]
 rfl
theorem z3r {cl:Nat} (h:cl < 20):atI (([1,1,0,0,0,0,0,1,0,0,0,0,1,1,0,0,0,0,0,0]:List Int).map V.int) (cl:Int)=some (.int (ROWN.getD cl 0:Nat)):=by
 refine zVT ?_
 have e:([1,1,0,0,0,0,0,1,0,0,0,0,1,1,0,0,0,0,0,0]:List Int)=zn ROWN:=rfl
 rw [e,zgm,zVg (n:=ROWN.getD cl 0) (by rw [zge h,Chg.vX h])]
 rfl
theorem z3z (T:TxtB K mg base t):Own P w K mg base 16 "answers" ["calls"] (z4n K t):=by
 refine own1 T.d_answers xP fun a H Q h f cdv A outer s E hr=>?_
 obtain ⟨p,l,cs,rfl,hp,el,hask,hl,tab,hlen,k0⟩:=h
 obtain ⟨aN,ha_NUMBERS,hN⟩:=T.u_NUMBERS
 obtain ⟨aR,ha_ROWS,hR⟩:=T.u_ROWS
 refine ⟨_,(zW (yY (i:=1) xP.nd (z45 (z2i T.toTxt) hr.o))
   (zW (yY (i:=2) xP.nd (yX zY))
   (zW (yY (i:=3) xP.nd z3)
   (zW (zTU PassesOwn.never (z8 zRp (pv 3) (y8 K T.b_len (zZ (pv 0) zY)) (z9 _))
   (zW (yY (i:=4) xP.nd (yP (z4 K) (pv 0) (pv 3) (fun _ _=>rfl)))
   (zW (yY (i:=5) xP.nd (yQ vR (yQ vR (pv 3) z3) (yP (z0e K) (z0f ha_NUMBERS) (pv 4) (fun _ _=>rfl))))
   (zW (yY (i:=6) xP.nd (y9 (xZ K) (pv 0) (xX (yQ vR (pv 3) z3)) (xX (pv 5))))
   (zW (yY (i:=7) xP.nd (yX zY))
   (zW (yY (i:=3) xP.nd (pv 5))
   (zW (yO (z8 u5 (yP (z0e K) (z0f ha_ROWS) (pv 4) (fun _ _=>rfl)) z3 (z9 _)) (zW (yY (i:=3) xP.nd (yQ vR (yQ vR (pv 5) z3) (yP (z4 K) (pv 0) (pv 5) (fun _ _=>rfl))))
   (zV (yY (i:=7) xP.nd (y9 (xZ K) (pv 0) (xX (yQ vR (pv 5) z3)) (xX (pv 3)))))) z7)
   (zW (yY (i:=8) xP.nd (zS (zTJ T) hr.o (zZ (pv 1) (zZ (pv 4) (zZ (pv 6) (zZ (pv 7) zY))))))
   (zW (jZ (zXp PySem.F.plainAttrs_list PySem.F.slot_list_append PySem.F.type_list_append zZy (pv 2) (zZ (y8 K T.b_len (zZ (pv 8) zY)) zY)))
   (zV (jZ (zXp PySem.F.plainAttrs_list PySem.F.slot_list_extend PySem.F.type_list_extend kT (pv 2) (zZ (pv 8) zY)))))))))))))
   (zV (zQ (pv 2))))))),?_⟩
 generalize hans:PyFlat.told (PyFlat.played WqgarjNeutral.step WqgarjNeutral.start (cs.map PyWqgarj.whole))=ans at *
 intro pk dx hpk hdx hne
 refine ⟨pk,dx,rfl,zX,rfl,?_⟩
 rw [uT]
 have SP:=zWT (t:=t) (o:=.ins t.CP dx [(("day" : Str),V.non)]) hpk hdx hne
 have gP:upd (upd H dx (.own pk)) pk (.ins t.CP dx [(("day" : Str),V.non)]) pk=some (.ins t.CP dx [(("day" : Str),V.non)]):=zX
 generalize upd (upd H dx (.own pk)) pk (.ins t.CP dx [(("day" : Str),V.non)])=H1 at *
 refine ⟨sz rfl,fun Tl hTl=>?_⟩
 have ST:Sm (Ts t) H1 (upd H1 Tl (.lst [])):=Sm.new hTl
 have iT:IL (upd H1 Tl (.lst [])) Tl []:=zX
 have pT:pk≠Tl:=zT gP hTl
 have S0T:=SP.trans ST
 have gP2:=ST.keep _ _ gP z0
 have nT0:H Tl=none:=SP.free hTl
 generalize upd H1 Tl (.lst [])=H2 at *
 have inp0:Inp K p Tl l H:=by
  rcases hp with (h|⟨o,h⟩)|h
  ·exact .inr ⟨zT h nT0,_,yR,h,fun H' e=>.inl (.inl e)⟩
  ·exact .inr ⟨zT h nT0,_,zUa,h,fun H' e=>.inl (.inr ⟨o,e⟩)⟩
  ·exact .inl fun H'=>.inr h
 have fpk:Fx K p Tl l pk:=by
  refine ⟨pT,?_⟩
  rcases inp0 with h|⟨_,o,_,e,_⟩
  ·exact .inl h
  ·exact .inr (zT e hpk).symm
 refine ⟨AnsW K t p pk Tl l ans,⟨cs.length,[],cs,none,[],none,none,none,none,none,rfl,el,hask,rfl,inp0.sm S0T,S0T.ok tab,iT,⟨dx,.non,gP2,fpk,rfl⟩,hans⟩,?_⟩
 rintro m σ H3 ⟨pre,rest,s,acc,o4,o5,o6,o7,o8,rfl,epre,hask,rfl,hp3,tab3,hT3,hpark,eans⟩
 refine ⟨_,rfl,_,rfl,InL.len hp3.inl_ ⟨_,_,rfl,rfl,_,rfl,?_⟩⟩
 cases rest with
 | nil=>
  have e:pre.length=l.length:=by
   rw [epre]
   show _=(pre++[]).length
   rw [List.append_nil]
  refine itP (fun z=>?_) fun _=>?_
  ·have z:(pre.length:Int) < (l.length:Int):=z
   lia
  ·have ea:acc=ans:=by
    rw [←eans]
    show acc=acc++[]
    rw [List.append_nil]
   rw [←ea] at k0
   exact ⟨_,rfl,k0 Tl H3 hT3⟩
 | cons c rest=>
  obtain ⟨⟨p0,a0,xs0,ec,hsh⟩,hc1⟩:=hask c (List.mem_cons_self ..)
  subst ec
  obtain ⟨cl,ns,u,c',ecl,hcl,hns,hu,hcal,hco⟩:=zQR hsh hc1
  have hask2:z19 rest:=fun x hx=>hask x (zmc _ hx)
  have est:WqgarjNeutral.step s (PyWqgarj.whole ((p0::a0)::xs0))=WqgarjSpec.step s c':=by
   unfold WqgarjNeutral.step
   rw [hco]
  rw [List.map_cons,z0v,est] at eans
  have epre:l=pre++(PyFlat.put1 ((p0::a0)::xs0)++PyFlat.put rest):=epre
  rw [ecl] at epre
  have e1:l=pre++((cl:Int)::(zn ns++(PyFlat.putRows (if ROWN.getD cl 0=1 then [zn u] else [])++PyFlat.put rest))):=by
   rw [epre]
   show pre++((((cl:Int)::zn ns)++PyFlat.putRows _)++PyFlat.put rest)=_
   rw [zaa]
   rfl
  generalize hrow:PyFlat.putRows (if ROWN.getD cl 0=1 then [zn u] else [])=row at e1
  have e2:l=(pre++[(cl:Int)])++(zn ns++(row++PyFlat.put rest)):=by
   rw [e1,zaa]
   rfl
  have plt:pre.length < l.length:=by
   rw [e1,zla,zlc]
   lia
  have lat:l[pre.length]?=some (cl:Int):=by
   rw [e1]
   exact z2L ..
  have ll1:pre.length+1+ns.length+row.length≤l.length:=by
   rw [e1,zla,zlc,zla,zla,z6]
   lia
  have sl1:cutV (l.map V.int) (some ((pre.length:Int)+1)) (some ((pre.length:Int)+1+((NUMN.getD cl 0:Nat):Int)))=(zn ns).map V.int:=by
   rw [←hns]
   have c:=zTT (l.map V.int) (i:=pre.length+1) (j:=pre.length+1+ns.length) (by rw [zlm];lia)
   have c2:((l.map V.int).take (pre.length+1+ns.length)).drop (pre.length+1)=(zn ns).map V.int:=by
    rw [←List.map_take,←List.map_drop]
    congr 1
    have:=zQF (pre++[(cl:Int)]) (zn ns) (row++PyFlat.put rest)
    rw [←e2,zla,z6] at this
    exact this
   rw [←c2,←c]
   rfl
  refine itP (fun _=>?_) fun z=>absurd (show (pre.length:Int) < (l.length:Int) by lia) z
  refine ⟨AnsW K t p pk Tl l ans rest.length,fun σ' H' q=>⟨rest.length,Nat.lt_succ_self _,q⟩,?_⟩
  refine ⟨_,rfl,_,rfl,InL.at_ hp3.inl_ lat ?_⟩
  refine ⟨_,rfl,_,_,rfl,rfl,_,rfl,aN,_,_,_,rfl,rfl,hN H3,z32 hcl,_,_,rfl,rfl,?_⟩
  refine ⟨_,rfl,_,rfl,_,_,rfl,rfl,_,rfl,_,rfl,_,rfl,p,_,rfl,hp3.inl_,fun nb hnb=>?_⟩
  rw [sl1]
  have S4:Sm (Ts t) H3 (upd H3 nb (.lst ((zn ns).map V.int))):=Sm.new hnb
  have inb:IL (upd H3 nb (.lst ((zn ns).map V.int))) nb (zn ns):=zX
  generalize upd H3 nb (.lst ((zn ns).map V.int))=H4 at *
  refine ⟨sz rfl,fun r0 hr00=>?_⟩
  have S5:Sm (Ts t) H4 (upd H4 r0 (.lst [])):=Sm.new hr00
  have ir0:IL (upd H4 r0 (.lst [])) r0 []:=zX
  have nr0:H3 r0=none:=S4.free hr00
  generalize upd H4 r0 (.lst [])=H5 at *
  have S35:=S4.trans S5
  have hp5:=hp3.sm (t:=t) S35
  have fin:∀(r:Addr) (H6:Hp),Sm (Ts t) H5 H6→IL H6 r (zn u)→H3 r=none→∃z:Unit,(Sm (Ts t) H3 H6)∧zZq (Fx K p Tl l) t H6 pk s∧TabsOk (Ts t) H6∧IL H6 nb (zn ns)∧Fx K p Tl l r∧(∀dx a,H6 pk=some (.ins t.CP dx [("day", .ref a)])→Ap t H6 a r)∧(∀x,H6 x=none→Fx K p Tl l x)∧Inp K p Tl l H6∧IL H6 Tl acc:=fun r H6 S ir nr=>
   have S36:=S35.trans S
   have hT6:=hT3.sm S36
   have hp6:=hp3.sm (t:=t) S36
   ⟨(),S36,hpark.sm S36,S36.ok tab3,inb.sm (S5.trans S),hp3.fresh hT3 r nr,z3h hpark S36 nr,hp6.fresh hT6,hp6,hT6⟩
  have la:acc.length+1+(WqgarjSpec.step s c').2.length≤10000000:=by
   rw [←eans,zla,zlc,zla] at hlen
   lia
  have hNE:((pre.length:Int)+1+((NUMN.getD cl 0:Nat):Int))=((pre.length+1+ns.length:Nat):Int):=by lia
  refine ⟨_,rfl,_,rfl,aR,_,_,_,rfl,rfl,hR H5,z3r hcl,rfl,_,rfl,itB (fun z=>?A) fun z=>?B⟩
  case' A=>
   have z:((ROWN.getD cl 0:Nat):Int)=((1:Nat):Int):=iEq z
   have z:=Int.ofNat.inj z
   rw [if_pos z] at hrow
   have erow:row=(u.length:Int)::zn u:=by
    rw [←hrow]
    show ((zn u).length:Int)::(zn u++[])=_
    rw [List.append_nil,z6]
   have e3:l=(pre++(cl:Int)::zn ns)++(u.length:Int)::(zn u++PyFlat.put rest):=by
    rw [e1,erow,zaa]
    rfl
   have e4:l=(pre++(cl:Int)::(zn ns++[(u.length:Int)]))++(zn u++PyFlat.put rest):=by
    rw [e3,zaa,zaa,List.cons_append,List.cons_append,zaa]
    rfl
   have lat2:l[pre.length+1+ns.length]?=some (u.length:Int):=by
    rw [e3]
    have:=z2L (pre++(cl:Int)::zn ns) (u.length:Int) (zn u++PyFlat.put rest)
    rw [zla,zlc,z6,←Nat.add_assoc,Nat.add_right_comm] at this
    exact this
   have sl2:=z4K e4 (i:=(pre.length:Int)+1+((NUMN.getD cl 0:Nat):Int)+1) (j:=(pre.length:Int)+1+((NUMN.getD cl 0:Nat):Int)+1+(u.length:Int)) (by rw [hNE,zla,zlc,zla,z6,List.length_singleton];lia) (by rw [hNE,zla,zlc,zla,z6,z6,List.length_singleton];lia)
   refine ⟨_,rfl,_,_,rfl,rfl,_,rfl,_,rfl,InL.atz hp5.inl_ lat2 hNE ⟨_,_,rfl,rfl,?_⟩⟩
   refine ⟨_,rfl,_,rfl,_,_,rfl,rfl,_,rfl,_,rfl,_,rfl,p,_,rfl,hp5.inl_,fun r hr=>?_⟩
   rw [sl2]
   have S6:Sm (Ts t) H5 (upd H5 r (.lst ((zn u).map V.int))):=Sm.new hr
   have ir:IL (upd H5 r (.lst ((zn u).map V.int))) r (zn u):=zX
   generalize upd H5 r (.lst ((zn u).map V.int))=H6 at *
   have epl:((pre.length:Int)+1+((NUMN.getD cl 0:Nat):Int)+1+(u.length:Int))=((pre++(cl:Int)::(zn ns++row)).length:Int):=by
    rw [hNE,zla,zlc,zla,z6,erow,zlc,z6]
    lia
   obtain ⟨_,S36,hpark6,tab6,inb6,Fr,ap,fr6,hp6,hT6⟩:=fin r H6 S6 ir (S35.free hr)
  case' B=>
   have z:ROWN.getD cl 0≠1:=fun e=>by
    rw [e] at z
    cases z
   rw [if_neg z] at hrow
   have eu:=hu z
   subst eu
   have epl:((pre.length:Int)+1+((NUMN.getD cl 0:Nat):Int))=((pre++(cl:Int)::(zn ns++row)).length:Int):=by
    rw [hNE,zla,zlc,zla,z6,←hrow]
    show _=((pre.length+(ns.length+0+1):Nat):Int)
    lia
   obtain ⟨r,er⟩:∃r,r=r0:=⟨_,rfl⟩
   obtain ⟨H6,eH⟩:∃H6,H6=H5:=⟨_,rfl⟩
   subst er
   subst eH
   have ir:IL H6 r (zn []):=ir0
   obtain ⟨_,S36,hpark6,tab6,inb6,Fr,ap,fr6,hp6,hT6⟩:=fin r H6 (Sm.refl _) ir0 nr0
  all_goals
   refine ⟨_,rfl,_,rfl,_,rfl,_,rfl,_,_,_,_,rfl,pk,nb,r,Fx K p Tl l,s,cl,ns,_,c',rfl,rfl,rfl,rfl,hpark6,tab6,inb6,ir,Fr,ap,fr6,hcal,fun b H7 kp nbn hb hpk7=>?_⟩
   have hp7:=hp6.kp kp
   have hT7:IL H7 Tl acc:=kp.keep _ _ hT6 yR z1i
   have tab7:=kp.tabs tab6
   have nTb:Tl≠b:=zT hT6 nbn
   refine ⟨_,rfl,.inl ⟨rfl,_,SqL.of hT7⟩,_,rfl,InL.len (SqL.of hb) (z4b hT7 (by lia) ?_)⟩
   have hT8:IL (upd H7 Tl (.lst ((acc++[((WqgarjSpec.step s c').2.length:Int)]).map V.int))) Tl (acc++[((WqgarjSpec.step s c').2.length:Int)]):=zX
   have hb8:IL (upd H7 Tl (.lst ((acc++[((WqgarjSpec.step s c').2.length:Int)]).map V.int))) b (WqgarjSpec.step s c').2:=by
    unfold IL
    rw [zP nTb.symm]
    exact hb
   have hp8:=hp7.upd (o:=.lst ((acc++[((WqgarjSpec.step s c').2.length:Int)]).map V.int))
   have hpk8:=zZq.updF (o:=.lst ((acc++[((WqgarjSpec.step s c').2.length:Int)]).map V.int)) z1i hpk7
   have tab8:TabsOk (Ts t) (upd H7 Tl (.lst ((acc++[((WqgarjSpec.step s c').2.length:Int)]).map V.int))):=zYb (.inr ⟨_,hT7,yR,fun f z=>by cases z⟩) tab7
   generalize upd H7 Tl (.lst ((acc++[((WqgarjSpec.step s c').2.length:Int)]).map V.int))=H8 at *
   refine ⟨_,rfl,.inl ⟨rfl,_,SqL.of hT8⟩,_,rfl,z4T hT8 hb8 (by rw [zla,List.length_singleton];lia) ?_⟩
   refine ⟨pre++(cl:Int)::(zn ns++row),rest,(WqgarjSpec.step s c').1,acc++[((WqgarjSpec.step s c').2.length:Int)]++(WqgarjSpec.step s c').2,_,_,_,_,_,rfl,?_,hask2,by rw [←epl];rfl,hp8.upd,zYb (.inr ⟨_,hT8,yR,fun f z=>by cases z⟩) tab8,zX,zZq.updF z1i hpk8,?_⟩
   ·rw [e1,zaa,List.cons_append,zaa]
   ·rw [←eans,zaa,zaa]
    rfl
end
end Cc
namespace L2
open PySem PySem.Spec PyProof.Rows
open PySem.W (WData Codec OpenSpec Well WellAll ReadsW ReadsAllW)
def z5t (H:Hp) (Ps:List Addr):Hp:=fun b=>if b∈Ps then some (.tbl #[]) else H b
def BmAt (mg:Str→Option Value) (h:Heap):Prop:=∃bm ob,mg "__builtins__" = some (.ref bm)∧bm≠builtinsNs∧h.get? bm=some ob∧ob.cls=.type "module" ∧ ob.dict=some builtinsNs∧ob.data=.plain
theorem zQT {P:Program}{w:World}{K:Fg}{mg mb:Str→Option Value}{k:Nat}{x:Str}{fa:Addr}{ps:List Str}{sp:Sp}{s₁:Shared}{vals:List Value}{ds:List WData}{R:PySem.W.WRecords}{cl:Str→Option Addr}{d0:WData}{tabs:List (Addr×Addr)}
  (KX:K.In s₁.heap) (hns:s₁.heap.Ns mainGlobals mg) (hb:s₁.heap.Ns builtinsNs mb) (hbb:∀x:Str,x≠"__name__" → mb x=bootBuiltins x) (hlim:s₁.heap.NoLimit) (hg:s₁.gens=#[])
  (hbm:BmAt mg s₁.heap) (hT:PySem.W.TabsAt tabs s₁.heap) (hKT:∀q∈tabs,K.lookup q.2=none)
  (hwl:WellAll w.params s₁.heap vals ds) (hpl:plWs ds=true) (hwt:∀d∈ds,d.weight≤1048576) (hr:Room k callerA)
  (F:∀base:Heap,K.In base→base.Ns mainGlobals mg→BmAt mg base→(∀q∈tabs,PySem.W.CodeHd base q.1 q.2)→Own P w K mg base k x ps sp) (hx:mg x=some (.ref fa)) (hlen:ds.length=ps.length)
  (hsp:∀(H0 H:Hp) (xs:List V),z14 H0→zUB K H0 xs ds→(∀b o,H0 b=some o→H b=some o)→(∀q∈tabs,H q.2=some (.tbl #[]))→sp xs H (fun v H'=>Dw K H' v d0) fun _ _ _=>False):
  codeAny (model P w) callerA (.call (.ref fa) ⟨vals,[]⟩) (fun r s'=>∃u as,r=.ok (.ret u)∧ReadsW R cl s'.heap u d0 as∧OldK s₁.heap s'.heap∧s'.os=s₁.os∧AllBare s'.gens) s₁:=by
 obtain ⟨A,ho,ar⟩:=zVJ ds vals hwl hpl hwt
 have hO0:z14 (argH K s₁.heap A):=z1c ar
 have hok0:HOk P w (argH K s₁.heap A) s₁.heap:=z3E ar
 have hS:=zQj KX ar ds vals hwl hpl ho
 have hV:=zXf ho
 have tabP:∀b,b∈tabs.map (·.2)→s₁.heap.get? b=some (PySem.W.tabObj #[]):=fun b hb=>by
  obtain ⟨q,hq,rfl⟩:=List.mem_map.mp hb
  exact (hT q hq).2
 have sqA:∀{b:Addr}{u:HO},argH K s₁.heap A b=some u→∃o vs n,s₁.heap.get? b=some o∧o.data=.seq vs n∧K.lookup b=none:=fun {b u} q=>by
  obtain ⟨e0,vs,_,_,⟨e2,_⟩|⟨e2,_⟩⟩:=zS9 ar q
  ·exact ⟨_,_,_,e2,rfl,e0⟩
  ·exact ⟨_,_,_,e2,rfl,e0⟩
 have nP:∀{b:Addr}{u:HO},argH K s₁.heap A b=some u→b∉tabs.map (·.2):=fun {b u} q hb=>by
  obtain ⟨o,vs,n,e1,e2,_⟩:=sqA q
  rw [tabP b hb] at e1
  cases e1
  cases e2
 generalize hH:z5t (argH K s₁.heap A) (tabs.map (·.2))=H
 have Hin:∀b,b∈tabs.map (·.2)→H b=some (.tbl #[]):=fun b hb=>by
  rw [←hH]
  exact if_pos hb
 have Hout:∀b,b∉tabs.map (·.2)→H b=argH K s₁.heap A b:=fun b hb=>by
  rw [←hH]
  exact if_neg hb
 have up:∀b o,argH K s₁.heap A b=some o→H b=some o:=fun b o q=>by
  rw [Hout b (nP q)]
  exact q
 have hK:∀b u,H b=some u→K.lookup b=none:=fun b u q=>by
  by_cases hb:b∈tabs.map (·.2)
  ·obtain ⟨t,ht,rfl⟩:=List.mem_map.mp hb
   exact hKT t ht
  ·rw [Hout b hb] at q
   obtain ⟨_,_,_,_,_,e⟩:=sqA q
   exact e
 have noH:∀{b:Addr}{o:Obj},s₁.heap.get? b=some o→(∀vs n,o.data≠.seq vs n)→o≠PySem.W.tabObj #[]→H b=none:=fun {b o} e d1 d2=>by
  by_cases hb:b∈tabs.map (·.2)
  ·rw [tabP b hb] at e
   exact absurd (zsi e).symm d2
  ·rw [Hout b hb]
   cases q:argH K s₁.heap A b with
   | none=>rfl
   | some u=>
    obtain ⟨o',vs,n,e1,e2,_⟩:=sqA q
    rw [e] at e1
    cases e1
    exact absurd e2 (d1 vs n)
 have noA:∀{b:Addr}{o:Obj}{es:Array DictEntry}{ep:Nat},s₁.heap.get? b=some o→o.data=.dict es ep→H b=none:=fun {b o es ep} e d=>
  noH e (fun vs n z=>by rw [d] at z;cases z) fun z=>by
   rw [z] at d
   cases d
 have hok:HOk P w H s₁.heap:=fun b o e=>by
  by_cases hb:b∈tabs.map (·.2)
  ·rw [Hin b hb] at e
   cases e
   exact tabP b hb
  ·rw [Hout b hb] at e
   exact (hok0 b o e).stay (fun _ _ _ r=>r) (fun d r=>up d _ r) fun d xs r=>up d _ r
 have base_of:∀{b:Addr}{o:Obj},s₁.heap.get? b=some o→H b=none→(hidT s₁.heap H).get? b=some o:=fun e n=>z2a e n
 have nsK:∀{b:Addr}{m:Str→Option Value},s₁.heap.Ns b m→(hidT s₁.heap H).Ns b m:=fun {b m} ⟨o,es,ep,e,d,r⟩=>⟨o,es,ep,base_of e (noA e d),d,r⟩
 have nK:∀b o,K.lookup b=some o→H b=none:=fun b o e=>by
  cases q:H b with
  | none=>rfl
  | some u=>
   rw [hK b u q] at e
   cases e
 have hKb:K.In (hidT s₁.heap H):=fun b o e=>base_of (KX b o e) (nK b o e)
 have hM:Mod K mg (hidT s₁.heap H):=⟨hKb,nsK hns,⟨mb,nsK hb,hbb⟩,let ⟨mc,h1,h2⟩:=hlim;⟨mc,nsK h1,h2⟩⟩
 have e0:Env0 P w K mg (hidT s₁.heap H) callerA [] s₁ H:=⟨rfl,hM,fun b o e=>z3Q e,Nat.le_of_eq (z0u _ _),trivial,fun b hb=>absurd (show b∈([]:List Addr) from hb) (by simp),hok,.of_eq hg⟩
 have hbm':BmAt mg (hidT s₁.heap H):=by
  obtain ⟨bm,ob,b1,b2,b3,b4,b5,b6⟩:=hbm
  exact ⟨bm,ob,b1,b2,base_of b3 (noH b3 (fun vs n z=>by rw [b6] at z;cases z) fun z=>by rw [z] at b4;cases b4),b4,b5,b6⟩
 have hcd:∀q∈tabs,PySem.W.CodeHd (hidT s₁.heap H) q.1 q.2:=fun q hq=>by
  obtain ⟨o,vs,file,tf,flags,tg,inF,text,tt,e1,r1,r2,r⟩:=(hT q hq).1
  exact ⟨o,vs,file,tf,flags,tg,inF,text,tt,base_of e1 (noH e1 (fun _ _ z=>by rw [r2] at z;cases z) fun z=>by rw [z] at r1;cases r1),r1,r2,r⟩
 have hl:vals.length=ps.length:=by rw [zYm hwl];exact hlen
 obtain ⟨f,fd,FO,mf,_,B⟩:=F _ hKb (nsK hns) hbm' hcd
 obtain rfl:f=fa:=Value.ref.inj (zsi (mf.symm.trans hx))
 have hbd:=B s₁ vals KX (by rw [List.append_nil];exact hl)
 rw [List.append_nil] at hbd
 refine codeAny_mono (FO.run callerA [] s₁ H ⟨vals,[]⟩ vals (vals.map toV) _ _ hr e0 hbd hV (hsp _ H _ hO0 hS up fun q hq=>Hin _ (List.mem_map_of_mem hq))) fun r s' x=>?_
 cases r with
 | error e=>exact False.elim x
 | ok fl=>
  cases fl with
  | next=>exact False.elim x
  | brk=>exact False.elim x
  | cont=>exact False.elim x
  | ret u=>
   obtain ⟨v,H',os,bare,un,hok',r',q⟩:=x
   have kept:∀b o,b∉tabs.map (·.2)→s₁.heap.get? b=some o→s'.heap.get? b=some o:=fun b o hb e=>by
    cases q2:H b with
    | none=>exact un.keep b o e q2 (by intro z;exact absurd (show b∈([]:List Addr) from z) (by simp)) (by simp)
    | some u2=>
     have q3:=q2
     rw [Hout b hb] at q3
     rcases hO0 b with z|⟨ob,u3,z⟩
     ·rw [q3] at z
      cases z
     ·have z1:=up b _ z
      have z2:=un.frzs b ob _ z1
      obtain ⟨e1,_⟩:=hok b _ z1
      obtain ⟨e2,_⟩:=hok' b _ z2
      rw [e] at e1
      cases e1
      exact e2
   have grown:∀b,b∈tabs.map (·.2)→∃more,s'.heap.get? b=some (PySem.W.tabObj (#[]++more)):=fun b hb=>by
    obtain ⟨more,z⟩:=un.tbls b _ (Hin b hb)
    exact ⟨more,hok' b _ z⟩
   have KX':K.In s'.heap:=fun b o e=>kept b o (fun hb=>by
    rw [hK b _ (Hin b hb)] at e
    cases e) (KX b o e)
   have old:OldK s₁.heap s'.heap:=by
    refine ⟨fun b o e=>?_,fun b o e=>?_⟩
    ·by_cases hb:b∈tabs.map (·.2)
     ·obtain ⟨more,z⟩:=grown b hb
      obtain ⟨t,ht,rfl⟩:=List.mem_map.mp hb
      have e2:=(hT t ht).2
      rw [e] at e2
      cases e2
      exact .inr (.inl ⟨((hT t ht).1.tab e).isCodeTable,rfl,#[],more,rfl,z⟩)
     ·exact .inl (kept b o hb e)
    ·by_cases hb:b∈tabs.map (·.2)
     ·obtain ⟨more,z⟩:=grown b hb
      exact ⟨_,z⟩
     ·exact ⟨o,kept b o hb e⟩
   obtain ⟨as,hrd⟩:=Dw.reads (R:=R) (cl:=cl) hok' KX' d0 v u q r'
   exact ⟨u,as,rfl,hrd,old,os,bare⟩
theorem z37 {r:OpenSpec}{k:Nat}{q:Program}{loose:List Str}{XP:(Str→Option Value)→Heap→Prop}{YP:World→Heap→Prop}{d:DefRec}{K:Params→Fg}{ps:List Str}{sp:Fg→Sp}{tabs:List (Addr×Addr)}
  (hwell:r.wellSaid=true) (hdf:d.params.defaults=[]) (hlen:r.args.length=ps.length) (hr:Room k callerA)
  (hY:∀(w:World) (h:Heap),YP w h→(K w.params).In h) (hKT:∀(w:World),∀t∈tabs,(K w.params).lookup t.2=none)
  (hTb:∀(w:World) (mean:ExcName→Option Value) (mg mb:Str→Option Value) (h:Heap),(K w.params).In h→PyProof.Rows.Top q (PySem.W.looseW q loose) mean mg mb h→PySem.W.TabsAt tabs h)
  (F:∀(w:World) (mg:Str→Option Value) (base:Heap),(K w.params).In base→base.Ns mainGlobals mg→BmAt mg base→(∀q∈tabs,PySem.W.CodeHd base q.1 q.2)→Own r.prog w (K w.params) mg base k d.name ps (sp (K w.params)))
  (hsp:∀(w:World) (H0 H:Hp) (xs:List V) (a:Codec.denoteAll r.args),z14 H0→Codec.withinAll r.args a=true→Codec.app r.args r.asked a=true→zUB (K w.params) H0 xs (Codec.encAll r.args a)→(∀b o,H0 b=some o→H b=some o)→(∀q∈tabs,H q.2=some (.tbl #[]))→
   sp (K w.params) xs H (fun v H'=>Dw (K w.params) H' v (r.ret.enc (Codec.app r.args r.f a))) fun _ _ _=>False):
  PySem.W.WalkOS q loose XP YP r d [] (fun f vs=>PySem.call f vs):=by
 intro w s_0 s₁ mg mb G Y fa o pm cd doc dV kV ho hd hcd hD hmg hg args vals as hpre hlay hrd hwl hlo
 obtain ⟨a,e1,e2⟩:=PySem.W.os_pre_some hpre
 obtain ⟨e3,hwi⟩:=Codec.encAll_of_decAll r.args args a e1
 subst e3
 have KX:=hY w _ Y
 refine PySem.W.enter_call (codeAny_mono (zQT (R:=[]) (cl:=classAt s_0.heap) (d0:=r.ret.enc (Codec.app r.args r.f a)) KX G.T.g G.T.b G.T.builtins G.T.nolimit hg G.T.bmain (hTb w _ mg mb _ KX G.T) (hKT w) hwl (zSj _ _) (zUW hlay) hr (F w mg) hmg (by rw [zTh];exact hlen)
  (fun H0 H xs hO hS hu ht=>hsp w H0 H xs a hO hwi e2 hS hu ht)) fun r' s' hq=>?_)
 obtain ⟨u,as',rfl,h1,h2,h3,h4⟩:=hq
 exact ⟨.inl ⟨u,_,as',rfl,fun _=>rfl,h1,(OpenSpec.post_iff hwell hwi _ _).mpr rfl,fun z=>Bool.noConfusion (show false=true from z)⟩,h2,h3,h4⟩
end L2
namespace Cc
open PySem PySem.Spec PyProof.Rows L2
def tA:Adr:=⟨31,52,531,259,255,349,345⟩
section
variable {K:Fg}{h:Heap}{mg:Str→Option Value}{x qual:Str}{st:Stmt}{f C:Addr}{oc:Value}{od an:Option Addr}{sl:Array (Option Value)}{kV doc pm cdv ct:Value}
theorem z5G {q:Program}{loose:List Str}{mean:ExcName→Option Value}{mb:Str→Option Value}{c P:Addr} (T:PyProof.Rows.Top q loose mean mg mb h) (X:K.In h) (hr:((recsOf q).find? (fun e=>e.name == x)).isSome=true) (ht:PySem.W.tabIn K x=some (c,P)):PySem.W.CodeHd h c P∧h.get? P=some (PySem.W.tabObj #[]):=by
 obtain ⟨d,e⟩:=Option.isSome_iff_exists.mp hr
 exact PySem.W.tab_of T X e ht
theorem g_of {i:Int}{k:_} (X:K.In h) (G:h.Ns mainGlobals mg) (e:PySem.W.nsIn K mainGlobals x=some (some (.int i k))):∃k,mg x=some (.int i k):=⟨k,PySem.W.mg_of X G e⟩
theorem d_of (X:K.In h) (G:h.Ns mainGlobals mg) (a:PySem.W.nsIn K mainGlobals x=some (some (.ref f))) (l:K.lookup f=some ⟨oc,od,.func (PySem.W.fnOf x x (wY st) (vY st) (zU st) .none kV doc pm an cdv ct),sl⟩)
  (c:PySem.W.codeIn K cdv x=true) (k:PySem.W.keepIn K (.ref f)=true):Has K mg x st:=⟨f,_,z2K l c k,PySem.W.mg_of X G a⟩
theorem z5M {c0:Addr} (X:K.In h) (G:h.Ns mainGlobals mg) (a:PySem.W.nsIn K mainGlobals x=some (some (.ref f))) (l:K.lookup f=some ⟨oc,od,.func (PySem.W.fnOf x x (wY st) (vY st) (zU st) .none kV doc pm an (.ref c0) ct),sl⟩)
  (c:PySem.W.codeIn K (.ref c0) x=true) (k:PySem.W.keepIn K (.ref f)=true):HasC K mg x st c0:=⟨f,_,⟨⟨oc,od,kV,doc,pm,an,ct,sl,rfl,l,c⟩,k⟩,PySem.W.mg_of X G a⟩
theorem z5L {ns:List Int}{o:Obj}{its:Array Value}{n:Nat} (X:K.In h) (G:h.Ns mainGlobals mg) (a:PySem.W.nsIn K mainGlobals x=some (some (.ref f))) (l:K.lookup f=some o) (c:o.cls=.type "tuple") (d:o.data=.seq its n) (hl:its.size≤sizeLine) (v:Vals (ns.map V.int) its.toList):TupK K mg x ns:=
 ⟨f,PySem.W.mg_of X G a,fun H=>.inr ⟨o,its,n,l,c,d,hl,v⟩⟩
theorem k_of {fs:List Str} (pg:PySem.W.plainGet K C Str.empty=true) (hd:PySem.W.hasDictIn K C=true) (po:PySem.W.plainOver K C=true) (sa:PySem.W.findIn K (.ref C) "__setattr__" = some (some (.builtin "object.__setattr__"))) (no:∀f∈fs,zW3 K C f):z2f K C fs:=⟨⟨pg,hd,po,sa⟩,no⟩
theorem i_of (X:K.In h) (G:h.Ns mainGlobals mg) (aC:PySem.W.nsIn K mainGlobals x=some (some (.ref C))) (mk:PySem.W.makesIn K C=true) (a:PySem.W.findIn K (.ref C) "__init__" = some (some (.ref f))) (i:PySem.W.isFn K (.ref f)=true)
  (l:K.lookup f=some ⟨oc,od,.func (PySem.W.fnOf "__init__" qual (wY st) (vY st) (zU st) .none kV doc pm an cdv ct),sl⟩) (c:PySem.W.codeIn K cdv qual=true) (k:PySem.W.keepIn K (.ref f)=true) (kc:PySem.W.keepIn K (.ref C)=true):
  ∃f fd,Fun K "__init__" qual st f fd∧mg x=some (.ref C)∧Mk K C f:=⟨f,_,z2K l c k,PySem.W.mg_of X G aC,mk,a,i,kc⟩
theorem z2p {l:List Int} (h:PyWqgarj.answers_asked l=true):∃cs,l=PyFlat.put cs∧z19 cs∧PyWqgarj.answers l=PyFlat.told (PyFlat.played WqgarjNeutral.step WqgarjNeutral.start (cs.map PyWqgarj.whole))∧(PyWqgarj.answers l).length≤10000000:=by
 unfold PyWqgarj.answers_asked at h
 cases e:PyFlat.calls PyWqgarj.shape l.length l with
 | none=>
  rw [e] at h
  cases h
 | some cs=>
  rw [e] at h
  have h:(!cs.isEmpty && PyFlat.atMost 60 cs && PyInside.calls PyWqgarj.bound cs && WqgarjNeutral.asked (cs.map PyWqgarj.whole) && PyFlat.short 10000000 (PyWqgarj.answers l))=true:=h
  rw [zbt,zbt] at h
  obtain ⟨⟨_,h1⟩,h2⟩:=h
  obtain ⟨e1,e2⟩:=PyFlat.put_calls _ _ _ e
  refine ⟨cs,e1,fun c hc=>⟨e2 c hc,?_⟩,?_,of_decide_eq_true h2⟩
  ·unfold WqgarjNeutral.asked at h1
   rw [zbt,zbt,zbt,List.all_eq_true] at h1
   exact h1.1.1.1 _ (List.mem_map_of_mem hc)
  ·unfold PyWqgarj.answers PyWqgarj.calls
   rw [e]
theorem z5f {t:Adr}{H0 H:Hp}{a:Addr}{l:List Int}{E:XK} (hs:SqL K H0 a (l.map V.int)) (up:∀b o,H0 b=some o→H b=some o) (t1:H t.P1=some (.tbl #[])) (t2:H t.P2=some (.tbl #[])) (hl:l.length≤31000) (hq:PyWqgarj.answers_asked l=true):
  z4n K t [.ref a] H (fun v H'=>Dw K H' v (.list ((PyWqgarj.answers l).map PySem.W.WData.int))) E:=by
 obtain ⟨cs,el,hask,ea,hlen⟩:=z2p hq
 have hs2:SqL K H a (l.map V.int):=by
  rcases hs with (h|⟨o,h⟩)|h
  ·exact .inl (.inl (up _ _ h))
  ·exact .inl (.inr ⟨o,up _ _ h⟩)
  ·exact .inr h
 have tab:TabsOk (Ts t) H:=List.forall_mem_cons.mpr ⟨⟨#[],t1,trivial,.inl rfl⟩,List.forall_mem_cons.mpr ⟨⟨#[],t2,trivial,.inl rfl⟩,fun _ h=>nomatch h⟩⟩
 rw [ea] at hlen ⊢
 exact ⟨_,rfl,a,l,cs,rfl,hs2,el,hask,by lia,tab,hlen,fun b H' hb=>.lst (SqL.of hb) (z1Y _)⟩
end
end Cc
open PySem PySem.W PyProof.Rows
set_option maxRecDepth 100000 in
set_option maxHeartbeats 0 in
theorem PySem.Challenge.cw_chargingcars_s01_answers_holds : PySem.Challenge.rw_chargingcars_s01_answers.Holds := by
 refine PySem.W.holds_os (q:=Tp.vq) (loose:=Tp.lo) (Xt:=Tp.xt) (XP:=XL Tp.vq []) (Yf:=Hook.obs (kHook Tp.KK Tp.aK Tp.eK)) (Ya:=Hook.val (kHook Tp.KK Tp.aK Tp.eK)) (YP:=Hook.says (kHook Tp.KK Tp.aK Tp.eK)) (N:=7448) Tp.hl (Hook.of (kHook Tp.KK Tp.aK Tp.eK)) (Hook.keeps (kHook Tp.KK Tp.aK Tp.eK)) (fun s e=>xl_of s (Bool.and_eq_true_iff.mp e).1) XL.keeps (by rfl) (by rfl) (by rfl) (fun s e=>recFacts_of (Bool.and_eq_true_iff.mp e).2) os_shapes (by decide +kernel) (by decide +kernel) ⟨rfl,rfl,rfl,rfl,rfl,by decide +kernel⟩ ⟨[.list [.int 5]],by decide +kernel,by decide +kernel⟩ ?hc
 k_fillS
 refine L2.z37 (r:=PySem.Challenge.rw_chargingcars_s01_answers) (k:=16) (ps:=["calls"]) (tabs:=[(259,255),(349,345)]) (sp:=fun K=>Cc.z4n K Cc.tA) (by decide +kernel) rfl rfl ⟨rfl,by decide,by decide⟩ (fun w h Y=>PySem.W.kIn_of Y) ?KT ?TB ?F ?S
 case KT=>
  intro w
  exact List.forall_mem_cons.mpr ⟨by kernel_rfl,List.forall_mem_cons.mpr ⟨by kernel_rfl,fun _ h=>nomatch h⟩⟩
 case TB=>
  intro w mean mg mb h KX T
  exact List.forall_mem_cons.mpr ⟨Cc.z5G (x:="dearest_first") T KX (by decide +kernel) (by kernel_rfl),List.forall_mem_cons.mpr ⟨Cc.z5G (x:="refused_set") T KX (by decide +kernel) (by kernel_rfl),fun _ h=>nomatch h⟩⟩
 case S=>
  intro w H0 H xs a hO hwi hask hx up tb
  cases hx with
  | cons h1 h2=>
   cases h2
   cases h1 with
   | lst hs ha=>
    have e:=L2.z3x a.1 _ ha
    subst e
    have q:((Codec.inLen 0 31000 a.1 && a.1.all (Codec.inInt 0 4294967295)) && true)=true:=hwi
    rw [zbt,zbt] at q
    exact Cc.z5f hs up (tb _ (List.mem_cons_self ..)) (tb _ (zmc _ (List.mem_cons_self ..))) (Codec.inNat_iff.mp q.1.1).2 hask
 case F=>
  intro w mg base KX G bm cds
  refine Cc.z3z (t:=Cc.tA) ⟨?T,?c1,?c2,⟨bm,cds _ (List.mem_cons_self ..)⟩,⟨bm,cds _ (zmc _ (List.mem_cons_self ..))⟩,by decide⟩
  case c1=>refine' Cc.z5M KX G ?qa ?ql ?qc ?qk;(case qa=>k_is);(case ql=>k_is);(case qc=>k_is);(case qk=>k_is)
  case c2=>refine' Cc.z5M KX G ?qa ?ql ?qc ?qk;(case qa=>k_is);(case ql=>k_is);(case qc=>k_is);(case qk=>k_is)
  case T=>
   constructor
   all_goals first
    | (refine' Cc.g_of KX G ?qa;(case qa=>k_is))
    | (refine' PySem.W.mg_none_of KX G ?qa;(case qa=>k_is))
    | (refine' Cc.d_of KX G ?qa ?ql ?qc ?qk;(case qa=>k_is);(case ql=>k_is);(case qc=>k_is);(case qk=>k_is))
    | (refine' Cc.k_of ?qpg ?qhd ?qpo ?qsa ?qno;(case qpg=>k_is);(case qhd=>k_is);(case qpo=>k_is);(case qsa=>k_is);(case qno=>repeat (first|exact List.forall_mem_nil _|(refine List.forall_mem_cons.mpr ⟨by show PySem.W.findIn _ _ _=some none;k_is,?_⟩))))
    | (refine' Cc.i_of KX G ?qaC ?qmk ?qa ?qi ?ql ?qc ?qk ?qkc;(case qaC=>k_is);(case qmk=>k_is);(case qa=>k_is);(case qi=>k_is);(case ql=>k_is);(case qc=>k_is);(case qk=>k_is);(case qkc=>k_is))
    | (refine' Cc.z5L KX G ?qa ?ql ?qc ?qd ?qh ?qv;(case qa=>k_is);(case ql=>k_is);(case qc=>rfl);(case qd=>rfl);(case qh=>show 20≤sizeLine;decide);(case qv=>repeat (first|exact .nil|refine .cons ⟨_,rfl⟩ ?_)))
