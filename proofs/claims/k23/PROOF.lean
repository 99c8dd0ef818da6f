import PyProof.Rows.All
import Wide.All
import OpenK.AllK
import Wide.FinOn
import Lean
import PyProof.EqAt
import PyProof.EqKinds
import PyProof.TupleCall
import PySem.Challenge.RW_ladingchain_k23_days_never_fall
set_option Elab.async false
set_option linter.all false
set_option maxRecDepth 100000
set_option maxHeartbeats 4000000
section
namespace L2
open PySem PySem.Spec PyProof.Rows
abbrev Key:=Sum Int Str
def pS:Key->Value->Bool
 | .inl k,v=>Value.isInt k v
 | .inr x,v=>Value.isStrOf x v
def OY (w:World):Key->Int
 | .inl k=>hashInt k
 | .inr x=>hashStr w x
theorem dv:∀ {k:Key} {v:Value},pS k v = true->(∃ i t,k = Sum.inl i/\v = Value.int i t)\/(∃ x t,k = Sum.inr x/\v = Value.str x t)
 | .inl i,v,h=>by
   obtain ⟨t,e⟩:=Value.isInt_shape (k:=i) (v:=v) h
   exact .inl ⟨i,t,rfl,e⟩
 | .inr x,v,h=>by
   obtain ⟨t,e⟩:=Value.isStrOf_shape (x:=x) (v:=v) h
   exact .inr ⟨x,t,rfl,e⟩
theorem CS (i:Int) (t:Tok):pS (.inl i) (.int i t) = true:=by simp [pS,Value.isInt]
theorem EA (x:Str) (t:Tok):pS (.inr x) (.str x t) = true:=by simp [pS,Value.isStrOf]
theorem K6 (a b:Int):decide ((Sum.inl a:Key) = Sum.inl b) = (a == b):=by
 by_cases e:a = b
 ·subst e; simp
 ·have h:¬(Sum.inl a:Key) = Sum.inl b:=λq=>e (Sum.inl.inj q)
  rw [decide_eq_false h]
  exact (beq_eq_false_iff_ne.mpr e).symm
theorem LO (a b:Str):decide ((Sum.inr a:Key) = Sum.inr b) = decide (a = b):=by
 by_cases e:a = b
 ·subst e; simp
 ·have h:¬(Sum.inr a:Key) = Sum.inr b:=λq=>e (Sum.inr.inj q)
  rw [decide_eq_false h,decide_eq_false e]
theorem K1 (a:Int) (b:Str):decide ((Sum.inl a:Key) = Sum.inr b) = false:=decide_eq_false nofun
theorem Lm (a:Str) (b:Int):decide ((Sum.inr a:Key) = Sum.inl b) = false:=decide_eq_false nofun
def gR (prog:Program) (w:World):PySem.KeyKind prog w Key where
 is:=pS
 hash:=OY w
 inj:=λv a b ha hb=>by
  rcases dv ha with ⟨i,t,rfl,rfl⟩ | ⟨x,t,rfl,rfl⟩
  ·rcases dv hb with ⟨j,u,rfl,e⟩ | ⟨y,u,rfl,e⟩
   ·injection e with e1 _; rw [e1]
   ·exact nomatch e
  ·rcases dv hb with ⟨j,u,rfl,e⟩ | ⟨y,u,rfl,e⟩
   ·exact nomatch e
   ·injection e with e1 _; rw [e1]
 byValue:=λk v h=>by
  rcases dv h with ⟨i,t,rfl,rfl⟩ | ⟨x,t,rfl,rfl⟩ <;> rfl
 pyHash:=λhv h=>by
  rcases dv hv with ⟨i,t,rfl,rfl⟩ | ⟨x,t,rfl,rfl⟩
  ·exact wpAny_pyHash_int h
  ·exact wpAny_pyHash_str h
 eqBool:=λhu hv h=>by
  rcases dv hu with ⟨i,t,rfl,rfl⟩ | ⟨x,t,rfl,rfl⟩
  ·rcases dv hv with ⟨j,u,rfl,rfl⟩ | ⟨y,u,rfl,rfl⟩
   ·rw [K6] at h; exact wpAny_eqBool_int h
   ·rw [K1] at h; exact SeqAt.EqAt.int_str i t y u _ _ _ _ h
  ·rcases dv hv with ⟨j,u,rfl,rfl⟩ | ⟨y,u,rfl,rfl⟩
   ·rw [Lm] at h; exact SeqAt.EqAt.str_int x t j u _ _ _ _ h
   ·rw [LO] at h; exact wpAny_eqBool_str h
 «strs»:=λk x t v h=>by
  rcases dv h with ⟨i,u,rfl,e⟩ | ⟨y,u,rfl,e⟩
  ·exact nomatch e
  ·injection e with e1 _
   subst e1
   cases v <;> rfl
theorem zT (prog:Program) (w:World) (i:Int) (t:Tok):(gR prog w).is (.inl i) (.int i t) = true:=CS i t
theorem zu (prog:Program) (w:World) (x:Str) (t:Tok):(gR prog w).is (.inr x) (.str x t) = true:=EA x t
end L2
namespace L2
open PySem PySem.Spec PyProof.Rows
inductive V where
 | non | bl (b:Bool) | int (i:Int) | str (x:Str) | byt (b:Array UInt8) | flt (b:UInt64) | ref (a:Addr) | ty (n:String)
 deriving DecidableEq
def RelV:V->Value->Prop
 | .non,u=>u = Value.none
 | .bl b,u=>u = Value.bool b
 | .int i,u=>∃ t,u = Value.int i t
 | .str x,u=>∃ t,u = Value.str x t
 | .byt b,u=>∃ t,u = Value.bytes b t
 | .flt b,u=>∃ t,u = Value.float b t
 | .ref a,u=>u = Value.ref a
 | .ty n,u=>u = Value.type n
abbrev Vals:List V->List Value->Prop:=Paired RelV
theorem Vals.length (r:Vals xs us):xs.length = us.length:=Paired.length r
theorem Vals.get:∀ {xs:List V} {us:List Value} {i:Nat} {x:V},Vals xs us->xs[i]? = some x->∃ u,us[i]? = some u/\RelV x u
 | _,_,_,_,.nil,e=>by simp at e
 | _,_,0,_,.cons r _,e=>by simp at e; subst e; exact ⟨_,rfl,r⟩
 | _,_,i+1,x,.cons _ t,e=>by
   obtain ⟨u,h1,h2⟩:=Vals.get (i:=i) (x:=x) t (by simpa using e)
   exact ⟨u,by simpa using h1,h2⟩
theorem Vals.set (r:RelV x u):∀ {xs:List V} {us:List Value} (i:Nat),Vals xs us->Vals (xs.set i x) (us.set i u)
 | _,_,_,.nil=>.nil
 | _,_,0,.cons _ t=>.cons r t
 | _,_,i+1,.cons q t=>.cons q (Vals.set r i t)
theorem Vals.append:∀ {xs ys:List V} {us ws:List Value},Vals xs us->Vals ys ws->Vals (xs++ys) (us++ws)
 | _,_,_,_,.nil,s=>s
 | _,_,_,_,.cons r t,s=>.cons r (Vals.append t s)
theorem Vals.take:∀ {xs:List V} {us:List Value} (n:Nat),Vals xs us->Vals (xs.take n) (us.take n)
 | _,_,0,_=>.nil
 | _,_,_+1,.nil=>.nil
 | _,_,n+1,.cons r t=>.cons r (Vals.take n t)
theorem Vals.drop:∀ {xs:List V} {us:List Value} (n:Nat),Vals xs us->Vals (xs.drop n) (us.drop n)
 | _,_,0,r=>r
 | _,_,_+1,.nil=>.nil
 | _,_,n+1,.cons _ t=>Vals.drop n t
def iT:Option V->Option Value->Prop
 | some v,some u=>RelV v u
 | none,none=>True
 | _,_=>False
def KV {κ:Type}:List (κ×V)->List (κ×Value)->Prop:=Paired λ(p:κ×V) (q:κ×Value)=>p.1 = q.1/\RelV p.2 q.2
def kV:Key->V
 | .inl i=>.int i
 | .inr x=>.str x
inductive HO where
  | lst (xs:List V)
  | tup (xs:List V)
  | dK (kvs:List (Key×V))
  | set (S:Int->Bool) (n:Nat)
  | ins (C dx:Addr) (fs:List (Str×V))
  | own (x:Addr)
  | xd (fs:List (Str×V))
  | met (f x:Addr)
  | rng (lo hi:Int)
  | dt (o:Obj) (u:HO)
  | tbl (ps:Array Value)
  | ext (φ:Heap->Prop)
abbrev Hp:=Addr->Option HO
def upd (H:Hp) (a:Addr) (o:HO):Hp:=λb=>if b = a then some o else H b
theorem bj:upd H a o a = some o:=by unfold upd; rw [if_pos rfl]
theorem aZ (h:b≠a):upd H a o b = H b:=by unfold upd; rw [if_neg h]
theorem wq {H:Hp} {a b:Addr} {o u:HO} (h:H a = some o) (h':H b = some u) (d:o≠u):a≠b:=by
 intro e; subst e; rw [h] at h'; exact d (Option.some.inj h')
theorem dB {H:Hp} {a b:Addr} {o:HO} (h:H a = some o) (h':H b = none):a≠b:=by
 intro e; subst e; rw [h] at h'; cases h'
section
variable (P:Program) (w:World)
def dD (H:Hp) (h:Heap) (a:Addr):HO->Prop
 | .lst xs=>xs.length<=sizeLine/\∃ (its:List Value) (n:Nat),Vals xs its/\h.get? a = some { cls:=.type "list",data:=.seq its.toArray n }
 | .tup xs=>xs.length<=sizeLine/\∃ its:List Value,Vals xs its/\IsTup h a its.toArray
 | .dK kvs=>kvs.length<=sizeLine/\(a == sysModules) = false/\∃ vs,KV kvs vs/\h.DictOf (gR P w) a vs
 | .set S n=>h.SetOf (intKind P w) a S n
 | .ins C dx fs=>H dx = some (.own a)/\fs.length<=1000/\dx≠a/\h.get? a = some (PySem.W.instObj C dx)/\
   ∃ mA,h.Ns1 dx mA/\(∀ f,iT (fs.lookup f) (mA f))/\PySem.Within mA (fs.map (·.1))
 | .own _=>∃ o,h.get? a = some o
 | .xd fs=>∃ mA,h.Ns1 a mA/\∀ f,iT (fs.lookup f) (mA f)
 | .rng lo hi=>∃ t u v,h.get? a = some { cls:=.type "range",data:=.fields #[.int lo t,.int hi u,.int 1 v] }
 | .dt o u=>h.get? a = some o/\dD H h a u
 | .tbl ps=>h.get? a = some { cls:=.none,data:=.fields ps }
 | .met f x=>h.get? a = some (PySem.W.methodObj (.ref f) (.ref x))
 | .ext φ=>φ h/\(∃ o,h.get? a = some o)/\∀ h1 h2:Heap,φ h1->(∀ o,h1.get? a = some o->h2.get? a = some o)->φ h2
def eX (H:Hp) (h:Heap):Prop:=∀ a o,H a = some o->dD P w H h a o
end
section
variable {P:Program} {w:World} {H H':Hp} {h h':Heap} {a:Addr} {o:HO}
theorem dD.lt (x:dD P w H h a o):a < h.objs.size:=by
 cases o with
 | lst xs=>obtain ⟨_,_,_,_,e⟩:=x; exact Heap.lt_size e
 | tup xs=>obtain ⟨_,_,_,p⟩:=x; exact p.lt
 | dK kvs=>obtain ⟨_,_,_,_,o,_,_,e,_⟩:=x; exact Heap.lt_size e
 | set S n=>obtain ⟨o,_,_,_,e,_⟩:=x; exact Heap.lt_size e
 | ins C dx fs=>obtain ⟨_,_,_,e,_⟩:=x; exact Heap.lt_size e
 | own y=>obtain ⟨_,e⟩:=x; exact Heap.lt_size e
 | xd fs=>obtain ⟨_,⟨_,_,_,e,_⟩,_⟩:=x; exact Heap.lt_size e
 | rng lo hi=>obtain ⟨_,_,_,e⟩:=x; exact Heap.lt_size e
 | dt ob u=>obtain ⟨e,_⟩:=x; exact Heap.lt_size e
 | tbl ps=>exact Heap.lt_size (show h.get? a = some _ from x)
 | met f y=>exact Heap.lt_size (show h.get? a = some _ from x)
 | ext φ=>obtain ⟨_,⟨_,e⟩,_⟩:=x; exact Heap.lt_size e
theorem dD.nP (x:dD P w H h a o) (k:∀ b u,(b = a\/H b = some (.own a))->h.get? b = some u->h'.get? b = some u)
  (ho:∀ b,H b = some (.own a)->H' b = some (.own a)) (ht:∀ b xs,H b = some (.tup xs)->H' b = some (.tup xs)):dD P w H' h' a o:=by
 induction o with
 | lst xs=>obtain ⟨z,its,n,r,e⟩:=x; exact ⟨z,its,n,r,k _ _ (.inl rfl) e⟩
 | tup xs=>obtain ⟨z,its,r,ob,e,c⟩:=x; exact ⟨z,its,r,ob,k _ _ (.inl rfl) e,c⟩
 | dK kvs=>obtain ⟨z,y,vs,r,ob,es,ep,e,c⟩:=x; exact ⟨z,y,vs,r,ob,es,ep,k _ _ (.inl rfl) e,c⟩
 | set S n=>obtain ⟨ob,es,ep,t,e,c⟩:=x; exact ⟨ob,es,ep,t,k _ _ (.inl rfl) e,c⟩
 | ins C dx fs=>
   obtain ⟨d,z,ne,e,mA,⟨od,es,ep,e2,c⟩,r⟩:=x
   exact ⟨ho _ d,z,ne,k _ _ (.inl rfl) e,mA,⟨od,es,ep,k _ _ (.inr d) e2,c⟩,r⟩
 | own y=>obtain ⟨ob,e⟩:=x; exact ⟨ob,k _ _ (.inl rfl) e⟩
 | xd fs=>obtain ⟨mA,⟨od,es,ep,e,c⟩,r⟩:=x; exact ⟨mA,⟨od,es,ep,k _ _ (.inl rfl) e,c⟩,r⟩
 | rng lo hi=>obtain ⟨t,u,v,e⟩:=x; exact ⟨t,u,v,k _ _ (.inl rfl) e⟩
 | dt ob u ih=>obtain ⟨e,q⟩:=x; exact ⟨k _ _ (.inl rfl) e,ih q⟩
 | tbl ps=>
   have e:h.get? a = some { cls:=.none,data:=.fields ps }:=x
   show h'.get? a = some { cls:=.none,data:=.fields ps }
   exact k a _ (.inl rfl) e
 | met f y=>
   have e:h.get? a = some (PySem.W.methodObj (.ref f) (.ref y)):=x
   show h'.get? a = some (PySem.W.methodObj (.ref f) (.ref y))
   exact k a _ (.inl rfl) e
 | ext φ=>obtain ⟨p,⟨o,e⟩,st⟩:=x; exact ⟨st _ _ p λo q=>k _ _ (.inl rfl) q,⟨o,k _ _ (.inl rfl) e⟩,st⟩
theorem eX.lt (x:eX P w H h) (e:H a = some o):a < h.objs.size:=(x a o e).lt
theorem eX.fresh (x:eX P w H h) (e:h.objs.size<=a):H a = none:=by
 cases q:H a with
 | none=>rfl
 | some u=>exact absurd (Nat.lt_of_lt_of_le (x.lt q) e) (Nat.lt_irrefl _)
theorem eX.kept (x:eX P w H h) (k:∀ b u,h.get? b = some u->h'.get? b = some u):eX P w H h':=λa o e=>
 (x a o e).nP (λb u _ q=>k b u q) (λ_ q=>q) λ_ _ q=>q
theorem eX.laid (x:eX P w H h) (k:∀ b u,h.get? b = some u->h'.get? b = some u) (hp:h.objs.size<=a) (new:dD P w (upd H a o) h' a o):eX P w (upd H a o) h':=λb u e=>by
 have hn:=x.fresh hp
 by_cases hb:b = a
 ·subst hb; rw [bj] at e; cases e; exact new
 ·rw [aZ hb] at e
  exact (x b u e).nP (λc v _ q=>k c v q) (λc q=>by rw [aZ (dB q hn)]; exact q) λc xs q=>by rw [aZ (dB q hn)]; exact q
end
def Rd (H:Hp) (a:Addr) (u:HO):Prop:=H a = some u\/∃ o,H a = some (.dt o u)
theorem Rd.ok (r:Rd H a u) (x:eX P w H h):dD P w H h a u:=by
 rcases r with r | ⟨o,r⟩
 ·exact x a u r
 ·obtain ⟨_,q⟩:=x a _ r
  exact q
def ES:Option HO->Prop
 | some (.lst _)=>True
 | some (.dK _)=>True
 | some (.set _ _)=>True
 | some (.ins _ _ _)=>True
 | some (.ext _)=>True
 | _=>False
section
variable {P:Program} {w:World} {H:Hp} {h h':Heap} {x e:Addr} {o':HO}
theorem eX.write (ok:eX P w H h) (mu:ES (H x)) (he:e = x\/H e = some (.own x)) (k:∀ b u,b≠e->h.get? b = some u->h'.get? b = some u) (heo:∃ u,h'.get? e = some u)
  (new:dD P w (upd H x o') h' x o'):eX P w (upd H x o') h':=λb u q=>by
 have nown:∀ c y,H c = some (.own y)->c≠x:=λc y r z=>by subst z; rw [r] at mu; exact mu
 have ntup:∀ c xs,H c = some (.tup xs)->c≠x:=λc xs r z=>by subst z; rw [r] at mu; exact mu
 by_cases hb:b = x
 ·subst hb; rw [bj] at q; cases q; exact new
 ·rw [aZ hb] at q
  by_cases hbe:b = e
  ·have q':H b = some (.own x):=by
    rcases he with z | z
    ·exact absurd (hbe.trans z) hb
    ·rw [hbe]; exact z
   rw [q] at q'; cases q'
   obtain ⟨v,hv⟩:=heo
   exact ⟨v,by rw [hbe]; exact hv⟩
  ·refine (ok b u q).nP (λc v hc r=>k c v ?_ r) (λc r=>by rw [aZ (nown c b r)]; exact r) λc xs r=>by rw [aZ (ntup c xs r)]; exact r
   rcases hc with rfl | hc
   ·exact hbe
   ·rintro rfl
    rcases he with z | z
    ·exact nown c b hc z
    ·rw [hc] at z; cases z; exact hb rfl
end
structure Un (fs ex:List Addr) (H H':Hp) (h h':Heap):Prop where
 keep:∀ b o,h.get? b = some o->H b = none->b∉fs->b∉ex->h'.get? b = some o
 slot:∀ b o,h.get? b = some o->H b = none->b∈fs->b∉ex->∃ sl,h'.get? b = some { o with slots:=sl }
 free:∀ b o,h.get? b = some o->H b = none->b∉ex->H' b = none
 there:∀ b o,h.get? b = some o->b∉ex->∃ o',h'.get? b = some o'
 hU:∀ b xs,H b = some (.tup xs)->H' b = some (.tup xs)
 gC:∀ b o u,H b = some (.dt o u)->H' b = some (.dt o u)
 hG:∀ b ps,H b = some (.tbl ps)->∃ more,H' b = some (.tbl (ps++more))
section
variable {fs fs' ex ex':List Addr} {H H1 H2:Hp} {h h1 h2 h':Heap} {a x e:Addr} {o:HO}
theorem Un.any (u:Un fs ex H H1 h h1) (q:h.get? b = some ob) (n:H b = none) (hx:b∉ex):∃ sl,h1.get? b = some { ob with slots:=sl }:=by
 by_cases hb:b∈fs
 ·exact u.slot b ob q n hb hx
 ·exact ⟨ob.slots,u.keep b ob q n hb hx⟩
theorem Un.kept (k:∀ b u,h.get? b = some u->h'.get? b = some u):Un fs ex H H h h':=
 ⟨λb ob q _ _ _=>k b ob q,λb ob q _ _ _=>⟨ob.slots,k b ob q⟩,λ_ _ _ n _=>n,λb ob q _=>⟨ob,k b ob q⟩,λ_ _ q=>q,λ_ _ _ q=>q,λ_ ps q=>⟨#[],by rw [q]; simp⟩⟩
theorem Un.refl:Un fs ex H H h h:=Un.kept λ_ _ q=>q
theorem Un.laid (k:∀ b u,h.get? b = some u->h'.get? b = some u) (hp:h.objs.size<=a) (hn:H a = none):Un fs ex H (upd H a o) h h' where
 keep:=λb u q _ _ _=>k b u q
 slot:=λb u q _ _ _=>⟨u.slots,k b u q⟩
 free:=λb u q n _=>by rw [aZ (Nat.ne_of_lt (Nat.lt_of_lt_of_le (Heap.lt_size q) hp))]; exact n
 there:=λb u q _=>⟨u,k b u q⟩
 hU:=λb xs q=>by rw [aZ (dB q hn)]; exact q
 gC:=λb u xs q=>by rw [aZ (dB q hn)]; exact q
 hG:=λb ps q=>⟨#[],by rw [aZ (dB q hn),q]; simp⟩
theorem Un.write (mu:ES (H x)) (he:e = x\/H e = some (.own x)) (k:∀ b u,b≠e->h.get? b = some u->h'.get? b = some u) (heo:∃ u,h'.get? e = some u):Un fs ex H (upd H x o) h h':=by
 have hx:∀ b,H b = none->b≠x:=λb n z=>by subst z; rw [n] at mu; exact mu
 have hb:∀ b,H b = none->b≠e:=λb n z=>by
  subst z
  rcases he with r | r
  ·exact hx b n r
  ·rw [n] at r; cases r
 have hm:∀ b u,H b = some u->¬ES (some u)->b≠x:=λb u q nm z=>by subst z; rw [q] at mu; exact nm mu
 refine ⟨λb u q n _ _=>k b u (hb b n) q,λb u q n _ _=>⟨u.slots,k b u (hb b n) q⟩,λb u q n _=>by rw [aZ (hx b n)]; exact n,λb u q _=>?_,
  λb xs q=>by rw [aZ (hm b _ q λz=>z)]; exact q,λb u xs q=>by rw [aZ (hm b _ q λz=>z)]; exact q,λb ps q=>⟨#[],by rw [aZ (hm b _ q λz=>z),q]; simp⟩⟩
 by_cases hbe:b = e
 ·subst hbe; exact heo
 ·exact ⟨u,k b u hbe q⟩
end
def Ha (h:Heap) (H:Hp):List Addr:=(List.range h.objs.size).filter λa=>(H a).isSome
def nA (h:Heap) (H:Hp):Heap:=PySem.W.hideAll h (Ha h H)
theorem Fb (h:Heap) (H:Hp):(nA h H).objs.size = h.objs.size:=PySem.W.hideAll_size _ _
theorem Gx {h:Heap} {H:Hp} {b:Addr} {o:Obj} (e:h.get? b = some o) (n:H b = none):(nA h H).get? b = some o:=
 PySem.W.hideAll_get _ e λhm=>by
  have q:(H b).isSome = true:=(List.mem_filter.mp hm).2
  rw [n] at q; simp at q
theorem Jw {h:Heap} {H:Hp} {b:Addr} {o:Obj} (e:(nA h H).get? b = some o):h.get? b = some o/\H b = none:=by
 have e':h.get? b = some o:=PySem.W.of_hideAll (Ha h H) e
 refine ⟨e',?_⟩
 cases q:H b with
 | none=>rfl
 | some x=>
   have hm:b∈Ha h H:=List.mem_filter.mpr ⟨List.mem_range.mpr (Heap.lt_size e'),by simp [q]⟩
   have z:(nA h H).get? b = none:=PySem.W.hideAll_none (Ha h H) hm
   rw [z] at e; cases e
end L2
namespace L2
open PySem PySem.Spec PyProof.Rows
structure Mod (K:W.Frag) (mg:Str->Option Value) (base:Heap):Prop where
 vp:K.In base
 glob:base.Ns mainGlobals mg
 blt:∃ mb,base.Ns builtinsNs mb/\∀ x:Str,x≠"__name__"->mb x = bootBuiltins x
 nolimit:base.NoLimit
structure Cx where
 prog:Program
 w:World
 K:W.Frag
 mg:Str->Option Value
 base:Heap
 A:Around
 N:List Str
 s₀:Shared
 H₀:Hp
 env:Env
 outer:List Env
 stack:List Env
 ex:List Addr
 fn:Str->Bool
 calm:Bool
 pn:List (Addr×Obj)
 xe:Value->Shared->Prop
 dZ:Option (List (Option V)):=none
 iW:List Nat:=[]
def d8 (l:List Env):List Addr:=l.filterMap (·.frame)
abbrev Cx.fs (X:Cx):List Addr:=d8 X.outer
def vy (sc:Scope) (x:Str):Prop:=sc.names.lookup x = some .local\/sc.names.lookup x = some .cell\/sc.names.lookup x = some .free
def Loc (sc:Scope) (x:Str):Prop:=sc.names.lookup x = some .local\/sc.names.lookup x = some .cell
def Look (env:Env) (h:Heap) (m:Str->Option Value) (x:Str) (u:Value):Prop:=
 (env.kindOf x = some .local/\m x = some u)\/((env.kindOf x = some .cell\/env.kindOf x = some .free)/\∃ c,env.cells.lookup x = some c/\h.IsCell c (some u))
structure Cx.Ok (X:Cx):Prop where
 mod:Mod X.K X.mg X.base
 kind:X.env.scope.kind = .function
 glob:X.env.globals = mainGlobals
 blt:X.env.builtins = builtinsNs
 above:X.s₀.heap.objs.size<=X.env.locals
 inj:∀ x y c,X.env.cells.lookup x = some c->X.env.cells.lookup y = some c->x = y
 has:∀ x,(X.env.kindOf x = some .cell\/X.env.kindOf x = some .free)->∃ c,X.env.cells.lookup x = some c
 Km:∀ x c,X.fn x = true->X.env.cells.lookup x = some c->X.s₀.heap.objs.size<=c
 hd:X.calm = true->X.A.handled = none
 frames:X.A.frames = some X.stack
 dO:X.stack = X.outer\/(X.stack = X.env::X.outer/\X.env.frame = some X.env.locals)
 Qe:∀ b∈X.ex,b≠X.env.locals/\∀ x c,X.env.cells.lookup x = some c->c≠b
 bs:∀ b o,X.base.get? b = some o->X.s₀.heap.get? b = some o/\X.H₀ b = none
 vX:X.base.objs.size<=X.s₀.heap.objs.size
 kC:∀ b o,X.base.get? b = some o->b∉X.ex
 La:∀ b∈X.ex,b∉X.fs
 lI:X.s₀.heap.FunFrames X.base X.outer
 Dc:∀ b∈X.fs,X.H₀ b = none
structure Inv (X:Cx) (pins:List (Addr×Obj)) (σ:List (Option V)) (H:Hp) (s:Shared):Prop where
 ok:X.Ok
 os:s.os = X.s₀.os
 bare:AllBare s.gens
 base:Un X.fs X.ex X.H₀ H X.s₀.heap s.heap
 loc:∃ m,s.heap.Ns X.env.locals m/\∀ (i:Nat) (x:Str) (v:V),X.N[i]? = some x->σ[i]? = some (some v)->vy X.env.scope x->∃ u,RelV v u/\Look X.env s.heap m x u
 cell:∀ x c,X.env.cells.lookup x = some c->∃ v,s.heap.IsCell c v
 free:H X.env.locals = none
 gQ:∀ x c,X.env.cells.lookup x = some c->H c = none
 pin:∀ p∈X.pn++pins,s.heap.get? p.1 = some p.2/\H p.1 = none/\p.1≠X.env.locals/\p.1∉X.fs/\∀ v,p.2.data≠.cell v
 bt:eX X.prog X.w H s.heap
 len:σ.length = X.N.length
 Hl:∀ σ₀,X.dZ = some σ₀->∀ j:Nat,j∉X.iW->σ[j]? = σ₀[j]?
section
variable {X:Cx} {pins:List (Addr×Obj)} {σ:List (Option V)} {H H':Hp} {s:Shared} {h':Heap}
theorem Cx.Ok.O7 (ok:X.Ok) (e:X.base.get? b = some o):b∉X.fs:=λhb=>by
 have:=(ok.lI.mem hb).1
 rw [e] at this; cases this
theorem Inv.bs (I:Inv X pins σ H s):∀ b o,X.base.get? b = some o->s.heap.get? b = some o/\H b = none:=λb o e=>
 ⟨I.base.keep b o (I.ok.bs b o e).1 (I.ok.bs b o e).2 (I.ok.O7 e) (I.ok.kC b o e),I.base.free b o (I.ok.bs b o e).1 (I.ok.bs b o e).2 (I.ok.kC b o e)⟩
theorem Inv.bk (I:Inv X pins σ H s):∀ b o,X.base.get? b = some o->s.heap.get? b = some o:=λb o e=>(I.bs b o e).1
theorem Inv.mod (I:Inv X pins σ H s):Mod X.K X.mg X.base:=I.ok.mod
theorem Inv.gZ (I:Inv X pins σ H s):X.K.In s.heap:=I.ok.mod.vp.keeps I.bk
theorem Inv.fr (I:Inv X pins σ H s):∃ m,Fr X.base X.env.locals s.heap m:=
 let ⟨m,hn,_⟩:=I.loc
 ⟨m,hn,I.bk,Nat.le_trans I.ok.vX I.ok.above⟩
theorem Inv.lt (I:Inv X pins σ H s):X.env.locals < s.heap.objs.size:=let ⟨_,hn,_⟩:=I.loc; hn.lt
theorem Inv.sz (I:Inv X pins σ H s):X.s₀.heap.objs.size<=s.heap.objs.size:=Nat.le_trans I.ok.above (Nat.le_of_lt I.lt)
theorem Inv.Pk (I:Inv X pins σ H s) (h:s.heap.objs.size<=a):a∉X.fs:=λhb=>by
 obtain ⟨_,o,ho,_⟩:=I.ok.lI.mem hb
 exact absurd (Nat.lt_of_lt_of_le (Heap.lt_size ho) (Nat.le_trans I.sz h)) (Nat.lt_irrefl _)
theorem Inv.zg (I:Inv X pins σ H s):∀ x c,X.env.cells.lookup x = some c->c≠X.env.locals:=λx c e z=>by
 obtain ⟨v,o,ho,hd⟩:=I.cell x c e
 obtain ⟨m,⟨o',es,ep,ho',hd',_⟩,_⟩:=I.loc
 rw [z,ho'] at ho; cases ho; rw [hd'] at hd; cases hd
theorem Inv.lI (I:Inv X pins σ H s):s.heap.FunFrames X.base X.outer:=by
 have all:∀ (l:List Env),(∀ b∈d8 l,b∈X.fs)->X.s₀.heap.FunFrames X.base l->s.heap.FunFrames X.base l:=by
  intro l
  induction l with
  | nil=>intro _ _; trivial
  | cons env r ih=>
    intro hs hl
    obtain ⟨hk,⟨L,o,hf,hn,ho,hd⟩,hr⟩:=hl
    have hL:L∈X.fs:=hs L (by unfold d8; rw [List.filterMap_cons,hf]; exact List.mem_cons_self)
    obtain ⟨sl,e⟩:=I.base.slot L o ho (I.ok.Dc L hL) hL λz=>I.ok.La L z hL
    exact ⟨hk,⟨L,_,hf,hn,e,hd⟩,ih (λb hb=>hs b (by unfold d8; rw [List.filterMap_cons,hf]; exact List.mem_cons_of_mem _ hb)) hr⟩
 exact all X.outer (λ_ hb=>hb) I.ok.lI
theorem Inv.stack (I:Inv X pins σ H s):s.heap.FunFrames X.base X.stack:=by
 rcases I.ok.dO with e | ⟨e,hf⟩
 ·rw [e]; exact I.lI
 ·rw [e]
  obtain ⟨m,hn,_⟩:=I.loc
  refine .cons (by rw [I.ok.kind]; decide) hf hn ?_ I.lI
  exact Heap.get?_none_of_le (Nat.le_trans I.ok.vX I.ok.above)
theorem Inv.yp (I:Inv X pins σ H s):∀ b∈d8 X.stack,b∈X.env.locals::X.fs:=λb hb=>by
 rcases I.ok.dO with e | ⟨e,hf⟩
 ·rw [e] at hb; exact List.mem_cons_of_mem _ hb
 ·rw [e] at hb
  unfold d8 at hb
  rw [List.filterMap_cons,hf] at hb
  exact hb
theorem Inv.p7 (I:Inv X pins σ H s):∀ b∈d8 X.stack,H b = none:=λb hb=>by
 rcases List.mem_cons.mp (I.yp b hb) with e | hb
 ·rw [e]; exact I.free
 ·obtain ⟨_,o,ho,_⟩:=I.ok.lI.mem hb
  exact I.base.free b o ho (I.ok.Dc b hb) λz=>I.ok.La b z hb
theorem Inv.step {g':Array GenState} {t':Nat} {d':Drawn} {ch:List Addr} (I:Inv X pins σ H s)
  (hch:∀ b∈ch,(b∈X.ex\/X.s₀.heap.objs.size<=b)/\b≠X.env.locals/\(∀ x c,X.env.cells.lookup x = some c->c≠b)/\∀ p∈X.pn++pins,p.1≠b)
  (keep:∀ b o,b≠X.env.locals->b∉X.fs->b∉ch->s.heap.get? b = some o->H b = none->h'.get? b = some o)
  (slot:∀ b o,b≠X.env.locals->b∈X.fs->b∉ch->s.heap.get? b = some o->H b = none->∃ sl,h'.get? b = some { o with slots:=sl }) (free:∀ b o,b∉ch->s.heap.get? b = some o->H b = none->H' b = none)
  (there:∀ b o,b∉ch->s.heap.get? b = some o->∃ o',h'.get? b = some o')
  (hU:∀ b xs,H b = some (.tup xs)->H' b = some (.tup xs)) (gC:∀ b o u,H b = some (.dt o u)->H' b = some (.dt o u)) (hG:∀ b ps,H b = some (.tbl ps)->∃ more,H' b = some (.tbl (ps++more)))
  (ns:∀ m,s.heap.Ns X.env.locals m->h'.Ns X.env.locals m) (bt:eX X.prog X.w H' h') (hg:AllBare g'):
  Inv X pins σ H' { s with heap:=h',gens:=g',drawn:=d',toks:=t' }:=by
 have neL:∀ b o,X.s₀.heap.get? b = some o->b≠X.env.locals:=λb o e=>Nat.ne_of_lt (Nat.lt_of_lt_of_le (Heap.lt_size e) I.ok.above)
 have neC:∀ b o,X.s₀.heap.get? b = some o->b∉X.ex->b∉ch:=λb o e hx hb=>by
  rcases (hch b hb).1 with z | z
  ·exact hx z
  ·exact absurd (Nat.lt_of_lt_of_le (Heap.lt_size e) z) (Nat.lt_irrefl _)
 have cellK:∀ x c,X.env.cells.lookup x = some c->∀ v,s.heap.IsCell c v->h'.IsCell c v:=λx c e v ⟨o,ho,hd⟩=>by
  have nch:c∉ch:=λz=>(hch c z).2.2.1 x c e rfl
  by_cases hc:c∈X.fs
  ·obtain ⟨sl,q⟩:=slot c o (I.zg x c e) hc nch ho (I.gQ x c e)
   exact ⟨_,q,hd⟩
  ·exact ⟨o,keep c o (I.zg x c e) hc nch ho (I.gQ x c e),hd⟩
 refine ⟨I.ok,I.os,hg,⟨λb o e n hb hx=>?_,λb o e n hb hx=>?_,λb o e n hx=>?_,λb o e hx=>?_,λb xs e=>hU b xs (I.base.hU b xs e),λb o xs e=>gC b o xs (I.base.gC b o xs e),λb ps e=>?_⟩,?_,λx c e=>?_,?_,λx c e=>?_,λp hp=>?_,bt,I.len,I.Hl⟩
 ·exact keep b o (neL b o e) hb (neC b o e hx) (I.base.keep b o e n hb hx) (I.base.free b o e n hx)
 ·obtain ⟨sl,e1⟩:=I.base.slot b o e n hb hx
  obtain ⟨sl',e2⟩:=slot b _ (neL b o e) hb (neC b o e hx) e1 (I.base.free b o e n hx)
  exact ⟨sl',e2⟩
 ·obtain ⟨o',e1⟩:=I.base.there b o e hx
  exact free b o' (neC b o e hx) e1 (I.base.free b o e n hx)
 ·obtain ⟨o',e1⟩:=I.base.there b o e hx
  exact there b o' (neC b o e hx) e1
 ·obtain ⟨m1,e1⟩:=I.base.hG b ps e
  obtain ⟨m2,e2⟩:=hG b _ e1
  exact ⟨m1++m2,by rw [e2,Array.append_assoc]⟩
 ·obtain ⟨m,hn,hl⟩:=I.loc
  refine ⟨m,ns m hn,λi x v e1 e2 e3=>?_⟩
  obtain ⟨u,r,l⟩:=hl i x v e1 e2 e3
  refine ⟨u,r,?_⟩
  rcases l with l | ⟨k,c,e,z⟩
  ·exact .inl l
  ·exact .inr ⟨k,c,e,cellK x c e _ z⟩
 ·obtain ⟨v,z⟩:=I.cell x c e
  exact ⟨v,cellK x c e v z⟩
 ·obtain ⟨m,⟨o,_,_,ho,_⟩,_⟩:=I.loc
  exact free _ o (λz=>(hch _ z).2.1 rfl) ho I.free
 ·obtain ⟨v,o,ho,hd⟩:=I.cell x c e
  exact free c o (λz=>(hch c z).2.2.1 x c e rfl) ho (I.gQ x c e)
 ·obtain ⟨e,n,ne,nf,d⟩:=I.pin p hp
  have nch:p.1∉ch:=λz=>(hch p.1 z).2.2.2 p hp rfl
  exact ⟨keep p.1 p.2 ne nf nch e n,free p.1 p.2 nch e n,ne,nf,d⟩
theorem Inv.un {t':Nat} (I:Inv X pins σ H s) (u:Un X.fs [] H H' s.heap h') (bt:eX X.prog X.w H' h'):Inv X pins σ H' { s with heap:=h',toks:=t' }:=by
 obtain ⟨m,⟨o,es,ep,ho,r⟩,_⟩:=id I.loc
 obtain ⟨sl,hL⟩:=u.any ho I.free (by simp)
 exact I.step (g':=s.gens) (d':=s.drawn) (ch:=[]) (λ_ z=>nomatch z) (λb o _ hb _ e n=>u.keep b o e n hb (by simp)) (λb o _ hb _ e n=>u.slot b o e n hb (by simp)) (λb o _ e n=>u.free b o e n (by simp)) (λb o _ e=>u.there b o e (by simp)) u.hU u.gC u.hG (λm' hm=>by
  obtain ⟨o',es',ep',ho',r'⟩:=hm
  rw [ho] at ho'; cases ho'
  exact ⟨_,es',ep',hL,r'⟩) bt I.bare
theorem Inv.call {g':Array GenState} {t':Nat} {d':Drawn} {ch:List Addr} (I:Inv X pins σ H s) (u:Un (d8 X.stack) ch H H' s.heap h') (bt:eX X.prog X.w H' h') (hg:AllBare g')
  (hch:∀ b∈ch,(b∈X.ex\/X.s₀.heap.objs.size<=b)/\b≠X.env.locals/\(∀ x c,X.env.cells.lookup x = some c->c≠b)/\∀ p∈X.pn++pins,p.1≠b):
  Inv X pins σ H' { s with heap:=h',gens:=g',drawn:=d',toks:=t' }:=by
 obtain ⟨m,⟨o,es,ep,ho,r⟩,_⟩:=id I.loc
 obtain ⟨sl,hL⟩:=u.any ho I.free λz=>(hch _ z).2.1 rfl
 exact I.step (ch:=ch) hch (λb o hL hb hc e n=>u.keep b o e n (λz=>(List.mem_cons.mp (I.yp b z)).elim hL hb) hc) (λb o _ _ hc e n=>u.any e n hc) (λb o hc e n=>u.free b o e n hc) (λb o hc e=>u.there b o e hc) u.hU u.gC u.hG (λm' hm=>by
  obtain ⟨o',es',ep',ho',r'⟩:=hm
  rw [ho] at ho'; cases ho'
  exact ⟨_,es',ep',hL,r'⟩) bt hg
theorem Inv.turned {t':Nat} {it:Addr} (I:Inv X pins σ H s) (k:∀ b o,b≠it->s.heap.get? b = some o->h'.get? b = some o) (hn:H it = none) (hL:it≠X.env.locals)
  (h1:it∈X.ex\/X.s₀.heap.objs.size<=it) (h2:∀ x c,X.env.cells.lookup x = some c->c≠it) (h3:∀ p∈X.pn++pins,p.1≠it):Inv X pins σ H { s with heap:=h',toks:=t' }:=by
 have nit:∀ b u,H b = some u->b≠it:=λb u e z=>by rw [z,hn] at e; cases e
 refine I.step (g':=s.gens) (d':=s.drawn) (ch:=[it]) (λb hb=>?_) (λb o _ _ hc e _=>k b o (λz=>hc (by simp [z])) e) (λb o _ _ hc e _=>⟨o.slots,k b o (λz=>hc (by simp [z])) e⟩) (λ_ _ _ _ n=>n)
  (λb o hc e=>⟨o,k b o (λz=>hc (by simp [z])) e⟩) (λ_ _ e=>e) (λ_ _ _ e=>e) (λb ps e=>⟨#[],by rw [e]; simp⟩) (λm hm=>?_) (λb u e=>?_) I.bare
 ·have e:b = it:=by simpa using hb
  subst e
  exact ⟨h1,hL,h2,h3⟩
 ·obtain ⟨o,es,ep,ho,r⟩:=hm
  exact ⟨o,es,ep,k _ o (Ne.symm hL) ho,r⟩
 ·refine (I.bt b u e).nP (λc v hc q=>k c v ?_ q) (λ_ q=>q) λ_ _ q=>q
  rcases hc with z | z
  ·rw [z]; exact nit b u e
  ·exact nit c _ z
theorem Inv.tok (I:Inv X pins σ H s) (t:Nat):Inv X pins σ H { s with toks:=t }:=I.un (h':=s.heap) (t':=t) Un.refl I.bt
theorem Inv.kept (I:Inv X pins σ H s) (k:∀ b u,s.heap.get? b = some u->h'.get? b = some u):Inv X pins σ H { s with heap:=h',toks:=t' }:=I.un (Un.kept k) (I.bt.kept k)
theorem Inv.laid (I:Inv X pins σ H s) (k:∀ b u,s.heap.get? b = some u->h'.get? b = some u) (hp:s.heap.objs.size<=a) (new:dD X.prog X.w (upd H a o) h' a o):
  Inv X pins σ (upd H a o) { s with heap:=h',toks:=t' }:=I.un (Un.laid k hp (I.bt.fresh hp)) (I.bt.laid k hp new)
theorem Inv.write (I:Inv X pins σ H s) (mu:ES (H x)) (he:e = x\/H e = some (.own x)) (k:∀ b u,b≠e->s.heap.get? b = some u->h'.get? b = some u) (heo:∃ u,h'.get? e = some u)
  (new:dD X.prog X.w (upd H x o) h' x o):Inv X pins σ (upd H x o) { s with heap:=h',toks:=t' }:=I.un (Un.write mu he k heo) (I.bt.write mu he k heo new)
theorem Inv.weak (hna:X.dZ = none) (I:Inv X pins σ H s) (hl:σ'.length = σ.length) (w:∀ (i:Nat) v,σ'[i]? = some (some v)->σ[i]? = some (some v)):Inv X pins σ' H s:=
 ⟨I.ok,I.os,I.bare,I.base,let ⟨m,hn,hl'⟩:=I.loc; ⟨m,hn,λi x v e1 e2 e3=>hl' i x v e1 (w i v e2) e3⟩,I.cell,I.free,I.gQ,I.pin,I.bt,hl.trans I.len,λσ₀ e=>by rw [hna] at e; cases e⟩
theorem Inv.Aj (I:Inv X pins σ H s) (h:∀ p∈pins',s.heap.get? p.1 = some p.2/\H p.1 = none/\p.1≠X.env.locals/\p.1∉X.fs/\∀ v,p.2.data≠.cell v):Inv X pins' σ H s:=
 ⟨I.ok,I.os,I.bare,I.base,I.loc,I.cell,I.free,I.gQ,λp hp=>(List.mem_append.mp hp).elim (λz=>I.pin p (List.mem_append_left _ z)) (h p),I.bt,I.len,I.Hl⟩
theorem y9 {N:List Str} (hN:N.Nodup) {i j:Nat} {x:Str} (a:N[i]? = some x) (b:N[j]? = some x):i = j:=by
 obtain ⟨h1,e1⟩:=List.getElem?_eq_some_iff.mp a
 obtain ⟨h2,e2⟩:=List.getElem?_eq_some_iff.mp b
 exact (List.getElem_inj hN).mp (e1.trans e2.symm)
theorem vm {M:Model} {A:Around} {E:Value->Shared->Prop} {i:Nat} {x:Str} {v:V} {u:Value} {Q:Unit->Shared->Prop} (I:Inv X pins σ H s) (hN:X.N.Nodup) (hi:X.N[i]? = some x) (hx:Loc X.env.scope x) (r:RelV v u)
  (h:∀ s',Inv X pins (σ.set i (some v)) H s'->(∃ a,Heap.SameBut a s.heap s'.heap/\(a = X.env.locals\/X.env.cells.lookup x = some a))->Q () s') (han:X.dZ = none\/i∈X.iW) (hf:X.fn x = true\/X.env.scope.names.lookup x = some .local:=by first | exact .inl rfl | exact .inr rfl | assumption):wpAny M A (storeName X.env x u) Q E s:=by
 obtain ⟨m,hn,hl⟩:=id I.loc
 have hcls:(X.env.scope.kind == .class || (X.env.scope.kind == .module && X.env.locals != X.env.globals)) = false:=by rw [I.ok.kind]; rfl
 have hiσ:i < σ.length:=by rw [I.len]; exact (List.getElem?_eq_some_iff.mp hi).1
 have zg:=I.zg
 have anc':∀ σ₀,X.dZ = some σ₀->∀ j:Nat,j∉X.iW->(σ.set i (some v))[j]? = σ₀[j]?:=λσ₀ e j hj=>by
  rcases han with z | z
  ·rw [z] at e; cases e
  ·rw [List.getElem?_set_ne (λq:i = j=>hj (by rw [←q]; exact z))]; exact I.Hl σ₀ e j hj
 have tracked:∀ {a:Addr} {h':Heap},(∃ o,s.heap.get? a = some o/\H a = none)->Heap.SameBut a s.heap h'->eX X.prog X.w H h':=λ{a h'} ha hs b ob e=>by
  obtain ⟨_,_,hfree⟩:=ha
  refine (I.bt b ob e).nP (λc w' hc q=>(hs.2 c ?_).trans q) (λ_ q=>q) λ_ _ q=>q
  rintro rfl
  rcases hc with rfl | hc
  ·rw [hfree] at e; cases e
  ·rw [hfree] at hc; cases hc
 rcases hx with hk | hk
 ·refine wpAny_storeName_local hk hn (λh' hn' hs=>?_) hcls
  obtain ⟨oL,_,_,hoL,_⟩:=id hn
  refine h _ ⟨I.ok,I.os,I.bare,⟨λb o e n hb hx=>?_,λb o e n hb hx=>?_,I.base.free,λb o e hx=>?_,I.base.hU,I.base.gC,I.base.hG⟩,⟨_,hn',λj y v' e1 e2 e3=>?_⟩,λy c e=>?_,I.free,I.gQ,λp hp=>?_,tracked ⟨oL,hoL,I.free⟩ hs,by simpa using I.len,anc'⟩ ⟨_,hs,.inl rfl⟩
  ·exact (hs.2 b (Nat.ne_of_lt (Nat.lt_of_lt_of_le (Heap.lt_size e) I.ok.above))).trans (I.base.keep b o e n hb hx)
  ·obtain ⟨sl,e1⟩:=I.base.slot b o e n hb hx
   exact ⟨sl,(hs.2 b (Nat.ne_of_lt (Nat.lt_of_lt_of_le (Heap.lt_size e) I.ok.above))).trans e1⟩
  ·obtain ⟨o',e1⟩:=I.base.there b o e hx
   exact ⟨o',(hs.2 b (Nat.ne_of_lt (Nat.lt_of_lt_of_le (Heap.lt_size e) I.ok.above))).trans e1⟩
  ·by_cases hj:j = i
   ·subst hj
    rw [hi] at e1; cases e1
    rw [List.getElem?_set_self hiσ] at e2
    cases e2
    exact ⟨u,r,.inl ⟨hk,by simp⟩⟩
   ·rw [List.getElem?_set_ne (Ne.symm hj)] at e2
    obtain ⟨u',r',q⟩:=hl j y v' e1 e2 e3
    refine ⟨u',r',?_⟩
    rcases q with ⟨k,e⟩ | ⟨k,c,e,z⟩
    ·refine .inl ⟨k,?_⟩
     have:y≠x:=λe=>hj (y9 hN e1 (e▸hi))
     simp [this,e]
    ·exact .inr ⟨k,c,e,z.sameBut hs (zg y c e)⟩
  ·obtain ⟨w',z⟩:=I.cell y c e
   exact ⟨w',z.sameBut hs (zg y c e)⟩
  ·obtain ⟨e,n,ne,nf,d⟩:=I.pin p hp
   exact ⟨(hs.2 p.1 ne).trans e,n,ne,nf,d⟩
 ·have hfn:X.fn x = true:=by
   rcases hf with z | z
   ·exact z
   ·rw [z] at hk; cases hk
  obtain ⟨c,hc⟩:=I.ok.has x (.inl hk)
  obtain ⟨w',z⟩:=I.cell x c hc
  refine wpAny_storeName_cell I.ok.kind hk hc z (λh' hc' hs=>?_)
  obtain ⟨oc,hoc,hocd⟩:=id z
  refine h { s with heap:=h' } ⟨I.ok,I.os,I.bare,⟨λb o e n hb hx=>?_,λb o e n hb hx=>?_,I.base.free,λb o e hx=>?_,I.base.hU,I.base.gC,I.base.hG⟩,⟨m,hn.sameBut hs (Ne.symm (zg x c hc)),λj y v' e1 e2 e3=>?_⟩,λy c' e=>?_,I.free,I.gQ,λp hp=>?_,tracked ⟨oc,hoc,I.gQ x c hc⟩ hs,by simpa using I.len,anc'⟩ ⟨c,hs,.inr hc⟩
  ·exact (hs.2 b (Nat.ne_of_lt (Nat.lt_of_lt_of_le (Heap.lt_size e) (I.ok.Km x c hfn hc)))).trans (I.base.keep b o e n hb hx)
  ·obtain ⟨sl,e1⟩:=I.base.slot b o e n hb hx
   exact ⟨sl,(hs.2 b (Nat.ne_of_lt (Nat.lt_of_lt_of_le (Heap.lt_size e) (I.ok.Km x c hfn hc)))).trans e1⟩
  ·obtain ⟨o',e1⟩:=I.base.there b o e hx
   exact ⟨o',(hs.2 b (Nat.ne_of_lt (Nat.lt_of_lt_of_le (Heap.lt_size e) (I.ok.Km x c hfn hc)))).trans e1⟩
  ·by_cases hj:j = i
   ·subst hj
    rw [hi] at e1; cases e1
    rw [List.getElem?_set_self hiσ] at e2
    cases e2
    exact ⟨u,r,.inr ⟨.inl hk,c,hc,hc'⟩⟩
   ·rw [List.getElem?_set_ne (Ne.symm hj)] at e2
    obtain ⟨u',r',q⟩:=hl j y v' e1 e2 e3
    refine ⟨u',r',?_⟩
    rcases q with q | ⟨k,c',e,z'⟩
    ·exact .inl q
    ·refine .inr ⟨k,c',e,z'.sameBut hs ?_⟩
     rintro rfl
     exact hj (y9 hN e1 (I.ok.inj _ _ _ e hc▸hi))
  ·by_cases hcc:c' = c
   ·subst hcc; exact ⟨_,hc'⟩
   ·obtain ⟨w2,z2⟩:=I.cell y c' e
    exact ⟨w2,z2.sameBut hs hcc⟩
  ·obtain ⟨e,n,ne,nf,d⟩:=I.pin p hp
   refine ⟨(hs.2 p.1 ?_).trans e,n,ne,nf,d⟩
   intro q
   rw [q,hoc] at e
   have q':oc = p.2:=Option.some.inj e
   exact d w' (by rw [←q']; exact hocd)
theorem w8 (I:Inv X pins σ H s) (hN:X.N.Nodup) (hi:X.N[i]? = some x) (hx:Loc X.env.scope x) (r:RelV v u)
  (h:∀ s',Inv X pins (σ.set i (some v)) H s'->Q () s') (han:X.dZ = none\/i∈X.iW) (hf:X.fn x = true\/X.env.scope.names.lookup x = some .local:=by first | exact .inl rfl | exact .inr rfl | assumption):wpAny M A (storeName X.env x u) Q E s:=
 vm I hN hi hx r (λs' I' _=>h s' I') han hf
theorem Inv.HU (I:Inv X pins σ H s) (ho:s'.os = s.os) (u:Un (d8 X.stack) ch H H' s.heap s'.heap) (bt:eX X.prog X.w H' s'.heap) (hg:AllBare s'.gens)
  (hch:∀ b∈ch,(b∈X.ex\/X.s₀.heap.objs.size<=b)/\b≠X.env.locals/\(∀ x c,X.env.cells.lookup x = some c->c≠b)/\∀ p∈X.pn++pins,p.1≠b):Inv X pins σ H' s':=by
 obtain ⟨h',g',d',t',o'⟩:=s'
 have e:o' = s.os:=ho
 subst e
 exact I.call (g':=g') (t':=t') (d':=d') u bt hg hch
end
abbrev XK:=Value->Option Addr->Hp->Prop
abbrev St:=List (Option V)
abbrev VK:=V->Hp->Prop
abbrev TE:=St->Hp->VK->Prop
abbrev TT:=St->Hp->(Bool->Hp->Prop)->Prop
abbrev TA:=St->Hp->(List V->Hp->Prop)->Prop
structure Ends where
 nx:St->Hp->Prop
 rt:VK
 bk:St->Hp->Prop:=λ_ _=>False
 ct:St->Hp->Prop:=λ_ _=>False
abbrev TS:=Ends->St->Hp->Prop
def EP (X:Cx) (pins:List (Addr×Obj)) (σ:St) (Q:VK) (u:Value) (s':Shared):Prop:=∃ v H',Inv X pins σ H' s'/\RelV v u/\Q v H'
def TP (X:Cx) (pins:List (Addr×Obj)) (σ:St) (Q:Bool->Hp->Prop) (b:Bool) (s':Shared):Prop:=∃ H',Inv X pins σ H' s'/\Q b H'
def AP (X:Cx) (pins:List (Addr×Obj)) (σ:St) (Q:List V->Hp->Prop) (us:List Value) (s':Shared):Prop:=∃ vs H',Inv X pins σ H' s'/\Vals vs us/\Q vs H'
def SP (X:Cx) (pins:List (Addr×Obj)) (D:Ends) (f:Flow) (s':Shared):Prop:=
 match f with
 | .next=>∃ σ' H',Inv X pins σ' H' s'/\D.nx σ' H'
 | .brk=>∃ σ' H',Inv X pins σ' H' s'/\D.bk σ' H'
 | .cont=>∃ σ' H',Inv X pins σ' H' s'/\D.ct σ' H'
 | .ret u=>∃ v σ' H',Inv X pins σ' H' s'/\RelV v u/\D.rt v H'
def PE (X:Cx) (e:Expr) (t:TE):Prop:=
 ∀ (pins:List (Addr×Obj)) (s:Shared) (σ:St) (H:Hp) (Q:VK),Inv X pins σ H s->t σ H Q->wpAny (model X.prog X.w) X.A (eval e X.env) (EP X pins σ Q) X.xe s
def PT (X:Cx) (e:Expr) (t:TT):Prop:=
 ∀ (pins:List (Addr×Obj)) (s:Shared) (σ:St) (H:Hp) (Q:Bool->Hp->Prop),Inv X pins σ H s->t σ H Q->wpAny (model X.prog X.w) X.A (isTrue e X.env (eval e X.env)) (TP X pins σ Q) X.xe s
def PW (X:Cx) (e:Expr) (t:TT):Prop:=
 ∀ (whole:Sem Value) (pins:List (Addr×Obj)) (s:Shared) (σ:St) (H:Hp) (Q:Bool->Hp->Prop),Inv X pins σ H s->t σ H Q->wpAny (model X.prog X.w) X.A (isTrue e X.env whole) (TP X pins σ Q) X.xe s
theorem PW.pt (h:PW X e t):PT X e t:=h _
def PA (X:Cx) (es:List Expr) (t:TA):Prop:=
 ∀ (pos:Pos) (pins:List (Addr×Obj)) (s:Shared) (σ:St) (H:Hp) (Q:List V->Hp->Prop),Inv X pins σ H s->t σ H Q->wpAny (model X.prog X.w) X.A (spliced (backTo pos (starEach es X.env))) (AP X pins σ Q) X.xe s
def PS (X:Cx) (st:Stmt) (t:TS):Prop:=
 ∀ (pins:List (Addr×Obj)) (s:Shared) (σ:St) (H:Hp) (D:Ends),Inv X pins σ H s->t D σ H->wpAny (model X.prog X.w) X.A (exec st X.env) (SP X pins D) X.xe s
def ia (X:Cx) (st:List Stmt) (t:TS):Prop:=
 ∀ (pins:List (Addr×Obj)) (s:Shared) (σ:St) (H:Hp) (D:Ends),Inv X pins σ H s->t D σ H->wpAny (model X.prog X.w) X.A (execs st X.env) (SP X pins D) X.xe s
theorem aW {α:Type} {t:Sem α} {Q Q':α->Shared->Prop} {M:Model} {A:Around} {E:Value->Shared->Prop} {s:Shared} (h:wpAny M A t Q E s) (hQ:∀ a s,Q a s->Q' a s):wpAny M A t Q' E s:=wpAny_mono h hQ λ_ _ x=>x
end L2
namespace L2
open PySem PySem.Spec PyProof.Rows
section
variable {X:Cx}
theorem bin {a b:Expr} {ta tb:TE} (ha:PE X a ta) (hb:PE X b tb) {pins:List (Addr×Obj)} {s:Shared} {σ:St} {H:Hp} {R:V->V->Hp->Prop} (I:Inv X pins σ H s) (h:ta σ H λx H1=>tb σ H1 λy H2=>R x y H2)
  {α:Type} {Q:α->Shared->Prop} {f:Value->Value->Sem α}
  (hf:∀ v u s2 x y H2,Inv X pins σ H2 s2->RelV x v->RelV y u->R x y H2->wpAny (model X.prog X.w) X.A (f v u) Q X.xe s2):
  wpAny (model X.prog X.w) X.A (eval a X.env) (λv s₁=>wpAny (model X.prog X.w) X.A (eval b X.env) (λu s₂=>wpAny (model X.prog X.w) X.A (f v u) Q X.xe s₂) X.xe s₁) X.xe s:=by
 refine aW (ha pins s σ H _ I h) λv s1 ⟨x,H1,I1,r1,q1⟩=>?_
 refine aW (hb pins s1 σ H1 _ I1 q1) λu s2 ⟨y,H2,I2,r2,q2⟩=>?_
 exact hf v u s2 x y H2 I2 r1 r2 q2
def Pp (i:Nat):TE:=λσ H Q=>∃ v,σ[i]? = some (some v)/\Q v H
def tC (v:V):TE:=λ_ H Q=>Q v H
theorem LQ (hN:X.N[i]? = some x) (hv:vy X.env.scope x) (hd:(x == ("__debug__":Str)) = false:=by decide) (hcd:(x == ("__classdict__":Str)) = false:=by decide):PE X (.Name x pos) (Pp i):=by
 intro pins s σ H Q I h
 obtain ⟨v,e,h⟩:=h
 obtain ⟨m,hn,hl⟩:=I.loc
 obtain ⟨u,r,l⟩:=hl i x v hN e hv
 have fin:EP X pins σ Q u s:=⟨v,H,I,r,h⟩
 rcases l with ⟨hk,hm⟩ | ⟨hk,c,hc,hcell⟩
 ·exact wpAny_Name (wpAny_loadName_local I.ok.kind hk hn hm fin) hd
 ·rcases hk with hk | hk
  ·exact wpAny_Name (wpAny_loadName_cell I.ok.kind hk hc hcell fin) hd
  ·exact wpAny_Name (wpAny_loadName_free I.ok.kind hk hc hcell fin hcd) hd
theorem xV:PE X (.Constant (.int i) j pos) (tC (.int i)):=λ_ _ _ H _ I h=>wpAny_Constant_int ⟨.int i,H,I.tok _,⟨_,rfl⟩,h⟩
theorem ND:PE X (.Constant (.bool b) j pos) (tC (.bl b)):=λ_ _ _ H _ I h=>Constant_bool ⟨.bl b,H,I,rfl,h⟩
theorem EH:PE X (.Constant (.str x) j pos) (tC (.str x)):=λ_ _ _ H _ I h=>Calls.Constant_str ⟨.str x,H,I.tok _,⟨_,rfl⟩,h⟩
def Gl (X:Cx) (x:Str):Prop:=X.env.kindOf x = some .globalImplicit
theorem iD (I:Inv X pins σ H s) (hg:Gl X x) (hm:X.mg x = some u) (h:Q u s)
  (hd:(x == ("__debug__":Str)) = false:=by decide):wpAny (model X.prog X.w) X.A (eval (.Name x pos) X.env) Q E s:=
 Calls.Name_function_global I.ok.kind hg (Calls.loadGlobal_global (by rw [I.ok.glob]; exact I.mod.glob.keeps I.bk) hm h) hd
theorem kR (I:Inv X pins σ H s) (hg:Gl X x) (hm:X.mg x = none) (hv:bootBuiltins x = some u) (h:Q u s)
  (hn:x≠"__name__":=by decide) (hd:(x == ("__debug__":Str)) = false:=by decide):wpAny (model X.prog X.w) X.A (eval (.Name x pos) X.env) Q E s:=by
 obtain ⟨mb,h1,h2⟩:=I.mod.blt
 exact Calls.Name_function_global I.ok.kind hg (Calls.loadGlobal_builtin (by rw [I.ok.glob]; exact I.mod.glob.keeps I.bk) hm (by rw [I.ok.blt]; exact h1.keeps I.bk) ((h2 x hn).trans hv) h) hd
theorem IE (hg:Gl X x) (hm:X.mg x = some u) (r:RelV v u) (hd:(x == ("__debug__":Str)) = false:=by decide):PE X (.Name x pos) (tC v):=
 λ_ _ _ H _ I h=>iD I hg hm ⟨v,H,I,r,h⟩ hd
theorem Jf (hg:Gl X x) (hm:X.mg x = none) (hv:bootBuiltins x = some u) (r:RelV v u) (hn:x≠"__name__":=by decide) (hd:(x == ("__debug__":Str)) = false:=by decide):PE X (.Name x pos) (tC v):=
 λ_ _ _ H _ I h=>kR I hg hm hv ⟨v,H,I,r,h⟩ hn hd
variable {a b:Expr} {ta tb:TE} {pos:Pos}
def PC (X:Cx) (op:CmpOp) (a b:Expr) (t:TE):Prop:=
 ∀ (pins:List (Addr×Obj)) (s:Shared) (σ:St) (H:Hp) (Q:VK),Inv X pins σ H s->t σ H Q->
   wpAny (model X.prog X.w) X.A (eval a X.env) (λv s₁=>wpAny (model X.prog X.w) X.A (eval b X.env) (λu s₂=>wpAny (model X.prog X.w) X.A (compareOp op v u) (EP X pins σ Q) X.xe s₂) X.xe s₁) X.xe s
theorem nZ (b:Expr) (h:op≠.In) (h2:op≠.NotIn):behindInMarks op b = false:=by
 have e1:(op == CmpOp.In) = false:=by cases op <;> first | rfl | exact absurd rfl h
 have e2:(op == CmpOp.NotIn) = false:=by cases op <;> first | rfl | exact absurd rfl h2
 cases b <;> simp [behindInMarks,e1,e2]
def tB (t:TE):TT:=λσ H Q=>t σ H λx H1=>∃ c,x = .bl c/\Q c H1
theorem KC (h:PC X op a b t) (h1:behindInMarks op b = false:=by first | exact nZ _ (by decide) (by decide) | rfl):PE X (.Compare a [op] [b] pos) t:=λpins s σ H Q I hw=>wpAny_Compare1 (h pins s σ H Q I hw) h1
theorem DV (h:PC X op a b t) (h1:behindInMarks op b = false:=by first | exact nZ _ (by decide) (by decide) | rfl):PT X (.Compare a [op] [b] pos) (tB t):=by
 intro pins s σ H Q I hw
 refine wpAny_isTrue_Compare1 (aW (h pins s σ H _ I hw) λv s1 h1=>aW h1 λu s2 h2=>aW h2 λc s3 ⟨x,H1,I1,r1,q1⟩=>?_) h1
 obtain ⟨d,rfl,q⟩:=q1
 cases r1
 exact wpAny_truthy_bool ⟨H1,I1,q⟩
variable {tA tB':TT} {rest:List Expr}
def Pc (t u:TT):TT:=λσ H Q=>t σ H λc H1=>if c = true then u σ H1 Q else Q false H1
def P0 (t u:TT):TT:=λσ H Q=>t σ H λc H1=>if c = true then Q true H1 else u σ H1 Q
def Pb (t:TT):TT:=λσ H Q=>t σ H λc H1=>Q (!c) H1
theorem Iz (ha:PT X a tA):PW X (.BoolOp .And [a] pos) tA:=by
 intro wh pins s σ H Q I h
 refine isTrue_and (aW (ha pins s σ H Q I h) λc s1 e=>?_)
 cases c with
 | true=>exact isTrue_and_nil e
 | false=>exact e
theorem LD (ha:PT X a tA):PW X (.BoolOp .Or [a] pos) tA:=by
 intro wh pins s σ H Q I h
 refine isTrue_or (aW (ha pins s σ H Q I h) λc s1 e=>?_)
 cases c with
 | false=>exact isTrue_or_nil e
 | true=>exact e
theorem Mr (ha:PT X a tA) (hb:PW X (.BoolOp .And (b::rest) pos) tB'):PW X (.BoolOp .And (a::b::rest) pos) (Pc tA tB'):=by
 intro wh pins s σ H Q I h
 refine isTrue_and (aW (ha pins s σ H _ I h) λc s1 ⟨H1,I1,q1⟩=>?_)
 cases c with
 | true=>exact hb wh pins s1 σ H1 Q I1 q1
 | false=>exact ⟨H1,I1,q1⟩
theorem Nu (ha:PT X a tA) (hb:PW X (.BoolOp .Or (b::rest) pos) tB'):PW X (.BoolOp .Or (a::b::rest) pos) (P0 tA tB'):=by
 intro wh pins s σ H Q I h
 refine isTrue_or (aW (ha pins s σ H _ I h) λc s1 ⟨H1,I1,q1⟩=>?_)
 cases c with
 | true=>exact ⟨H1,I1,q1⟩
 | false=>exact hb wh pins s1 σ H1 Q I1 q1
theorem DZ (ha:PT X a tA):PT X (.UnaryOp .Not a pos) (Pb tA):=by
 intro pins s σ H Q I h
 exact isTrue_not (ha pins s σ H (λc H1=>Q (!c) H1) I h)
theorem LZ (h:PE X a t):PE X (.BoolOp op [a] pos) t:=λpins s σ H Q I hw=>BoolOp_one (h pins s σ H Q I hw)
def PU (t:TT) (ta tb:TE):TE:=λσ H Q=>t σ H λc H1=>if c = true then ta σ H1 Q else tb σ H1 Q
theorem GG (hc:PT X c tA) (ha:PE X a ta) (hb:PE X b tb):PE X (.IfExp c a b pos) (PU tA ta tb):=by
 intro pins s σ H Q I h
 refine wpAny_IfExp (aW (hc pins s σ H _ I h) λd s1 ⟨H1,I1,q1⟩=>?_)
 cases d with
 | true=>exact ha pins s1 σ H1 Q I1 q1
 | false=>exact hb pins s1 σ H1 Q I1 q1
end
end L2
namespace L2
open PySem PySem.Spec PyProof.Rows
def cR (K:W.Frag) (H:Hp) (a:Addr) (xs:List V):Prop:=
 Rd H a (.lst xs)\/
  ∃ (o:Obj) (its:Array Value) (n:Nat),K.lookup a = some o/\o.cls = .type "list"/\o.dict = none/\o.data = .seq its n/\its.size<=sizeLine/\Vals xs its.toList
def dz (K:W.Frag) (H:Hp) (a:Addr) (xs:List V):Prop:=
 Rd H a (.tup xs)\/
  ∃ (o:Obj) (its:Array Value) (n:Nat),K.lookup a = some o/\o.cls = .type "tuple"/\o.data = .seq its n/\its.size<=sizeLine/\Vals xs its.toList
def OD:Value->Option V
 | .none=>some .non
 | .bool b=>some (.bl b)
 | .int i _=>some (.int i)
 | .str x _=>some (.str x)
 | .bytes b _=>some (.byt b)
 | .float b _=>some (.flt b)
 | .ref a=>some (.ref a)
 | .type n=>some (.ty n)
 | _=>none
theorem RelV.abs (r:RelV x u):OD u = some x:=by
 cases x with
 | non=>cases r; rfl
 | bl _=>cases r; rfl
 | int _=>obtain ⟨t,rfl⟩:=r; rfl
 | str _=>obtain ⟨t,rfl⟩:=r; rfl
 | byt _=>obtain ⟨t,rfl⟩:=r; rfl
 | flt _=>obtain ⟨t,rfl⟩:=r; rfl
 | ref _=>cases r; rfl
 | ty _=>cases r; rfl
theorem RelV.inj (r:RelV x u) (q:RelV y u):x = y:=Option.some.inj (r.abs.symm.trans q.abs)
theorem Vals.inj:∀ {xs ys:List V} {us:List Value},Vals xs us->Vals ys us->xs = ys
 | _,_,_,.nil,.nil=>rfl
 | _,_,_,.cons r t,.cons r' t'=>by rw [r.inj r',Vals.inj t t']
section
variable {X:Cx} {pins:List (Addr×Obj)} {σ:St} {H:Hp} {s:Shared} {a:Addr} {xs ys:List V}
theorem cR.of {K:W.Frag} (h:H a = some (.lst xs)):cR K H a xs:=.inl (.inl h)
theorem dz.of {K:W.Frag} (h:H a = some (.tup xs)):dz K H a xs:=.inl (.inl h)
theorem Inv.list (I:Inv X pins σ H s) (h:cR X.K H a xs):∃ its:List Value,Vals xs its/\PlainL s.heap a its.toArray/\xs.length<=sizeLine:=by
 rcases h with h | ⟨o,its,n,hk,hc,hd,hs,hz,r⟩
 ·obtain ⟨z,its,n,r,e⟩:=h.ok I.bt
  exact ⟨its,r,⟨_,n,e,rfl,rfl,rfl⟩,z⟩
 ·refine ⟨its.toList,r,⟨o,n,I.gZ a o hk,hc,hd,by simpa using hs⟩,?_⟩
  have e:=r.length
  simp only [Array.length_toList] at e
  omega
theorem Inv.tuple (I:Inv X pins σ H s) (h:dz X.K H a xs):∃ its:List Value,Vals xs its/\IsTup s.heap a its.toArray/\xs.length<=sizeLine:=by
 rcases h with h | ⟨o,its,n,hk,hc,hs,hz,r⟩
 ·obtain ⟨z,its,r,p⟩:=h.ok I.bt
  exact ⟨its,r,p,z⟩
 ·refine ⟨its.toList,r,⟨o,I.gZ a o hk,hc,n,by simpa using hs⟩,?_⟩
  have e:=r.length
  simp only [Array.length_toList] at e
  omega
theorem Inv.rH (I:Inv X pins σ H s) (h:cR X.K H a xs) (h':cR X.K H a ys):xs = ys:=by
 obtain ⟨its,r,⟨o,n,e,_,_,d⟩,_⟩:=I.list h
 obtain ⟨its',r',⟨o',n',e',_,_,d'⟩,_⟩:=I.list h'
 rw [e] at e'; cases e'
 rw [d] at d'
 injection d' with d1 _
 have:its = its':=by simpa using congrArg Array.toList d1
 subst this
 exact r.inj r'
theorem Inv.vk (I:Inv X pins σ H s) (h:dz X.K H a xs) (h':dz X.K H a ys):xs = ys:=by
 obtain ⟨its,r,⟨o,e,_,n,d⟩,_⟩:=I.tuple h
 obtain ⟨its',r',⟨o',e',_,n',d'⟩,_⟩:=I.tuple h'
 rw [e] at e'; cases e'
 rw [d] at d'
 injection d' with d1 _
 have:its = its':=by simpa using congrArg Array.toList d1
 subst this
 exact r.inj r'
end
section
variable {X:Cx} {pins:List (Addr×Obj)} {σ:St} {H:Hp} {s:Shared} {E:Value->Shared->Prop}
end
section
variable {X:Cx} {st:Stmt} {rest:List Stmt} {t u:TS} {e:Expr} {te:TE} {pos:Pos}
def Og:TS:=λD σ H=>D.nx σ H
def Po (t u:TS):TS:=λD σ H=>t { D with nx:=u D } σ H
theorem JR:ia X [] Og:=λ_ _ σ H _ I h=>wpAny_execs_nil ⟨σ,H,I,h⟩
theorem yb (h1:PS X st t) (h2:ia X rest u):ia X (st::rest) (Po t u):=by
 intro pins s σ H D I h
 refine wpAny_execs_cons (aW (h1 pins s σ H { D with nx:=u D } I h) λf s1 q=>?_)
 cases f with
 | next=>
   obtain ⟨σ',H',I',q⟩:=q
   exact h2 pins s1 σ' H' D I' q
 | ret v=>exact q
 | brk=>exact q
 | cont=>exact q
theorem uA (h1:PS X st t):ia X [st] t:=by
 intro pins s σ H D I h
 refine wpAny_execs_cons (aW (h1 pins s σ H D I h) λf s1 q=>?_)
 cases f with
 | next=>exact wpAny_execs_nil q
 | ret v=>exact q
 | brk=>exact q
 | cont=>exact q
theorem Inv.quiet (I:Inv X pins σ H s):interactive X.env = false:=by simp [interactive,I.ok.kind]
def BJ (te:TE):TS:=λD σ H=>te σ H λ_ H1=>D.nx σ H1
theorem mi (he:PE X e te) (hs:swapsWith e none pos.line X.env = pure false:=by rfl):PS X (.Expr e pos) (BJ te):=by
 intro pins s σ H D I h
 exact wpAny_Expr_any (aW (he pins s σ H _ I h) λv s1 ⟨x,H1,I1,r1,q1⟩=>⟨σ,H1,I1,q1⟩) I.quiet hs
def OI (te:TE):TS:=λD σ H=>te σ H D.rt
theorem xC (he:PE X e te):PS X (.Return (some e) pos) (OI te):=by
 intro pins s σ H D I h
 exact wpAny_Return_some (aW (he pins s σ H _ I h) λv s1 ⟨x,H1,I1,r1,q1⟩=>⟨x,σ,H1,I1,r1,q1⟩)
def OQ (c:TT) (t u:TS):TS:=λD σ H=>c σ H λb H1=>if b = true then t D σ H1 else u D σ H1
theorem CI (hc:PT X c tc) (ha:ia X a t) (hb:ia X b u):PS X (.If c a b pos) (OQ tc t u):=by
 intro pins s σ H D I h
 refine wpAny_If (aW (hc pins s σ H _ I h) λd s1 ⟨H1,I1,q1⟩=>?_)
 cases d with
 | true=>exact ha pins s1 σ H1 D I1 q1
 | false=>exact hb pins s1 σ H1 D I1 q1
end
abbrev TG:=V->St->Hp->(St->Hp->Prop)->Prop
abbrev vf:=List V->St->Hp->(St->Hp->Prop)->Prop
def PG (X:Cx) (target:Expr) (t:TG):Prop:=
 ∀ (pins:List (Addr×Obj)) (s:Shared) (σ:St) (H:Hp) (v:V) (u:Value) (Q:St->Hp->Prop),Inv X pins σ H s->RelV v u->t v σ H Q->
   wpAny (model X.prog X.w) X.A (assign target X.env u) (λ_ s'=>∃ σ' H',Inv X pins σ' H' s'/\Q σ' H') X.xe s
def sD (X:Cx) (ts:List Expr) (t:vf):Prop:=
 ∀ (pins:List (Addr×Obj)) (s:Shared) (σ:St) (H:Hp) (vs:List V) (us:List Value) (Q:St->Hp->Prop),Inv X pins σ H s->Vals vs us->t vs σ H Q->
   wpAny (model X.prog X.w) X.A (assignInOrder ((assignEach ts X.env).map (·.2)) us) (λ_ s'=>∃ σ' H',Inv X pins σ' H' s'/\Q σ' H') X.xe s
abbrev O9:=V->V->V->Hp->(Hp->Prop)->Prop
def OE (X:Cx) (t:O9):Prop:=
 ∀ (pins:List (Addr×Obj)) (s:Shared) (σ:St) (H:Hp) (o i v:V) (ov iv u:Value) (Q:Hp->Prop),Inv X pins σ H s->RelV o ov->RelV i iv->RelV v u->t o i v H Q->
   wpAny (model X.prog X.w) X.A (setItem ov iv u) (λ_ s'=>∃ H',Inv X pins σ H' s'/\Q H') X.xe s
section
variable {X:Cx} {pos:Pos}
def la (i:Nat):TG:=λv σ H Q=>Q (σ.set i (some v)) H
theorem Jv (hN:X.N.Nodup) (hi:X.N[i]? = some x) (hx:Loc X.env.scope x) (han:X.dZ = none\/i∈X.iW:=by first | exact .inl rfl | exact .inr (by decide) | assumption) (hf:X.fn x = true\/X.env.scope.names.lookup x = some .local:=by first | exact .inl rfl | exact .inr rfl | assumption):PG X (.Name x pos) (la i):=by
 intro pins s σ H v u Q I r h
 exact wpAny_assign_Name (w8 I hN hi hx r (λs' I'=>⟨_,H,I',h⟩) han hf)
def O4:vf:=λvs σ H Q=>vs = []/\Q σ H
def Nn (t:TG) (u:vf):vf:=λvs σ H Q=>∃ v r,vs = v::r/\t v σ H λσ' H'=>u r σ' H' Q
theorem IZ:sD X [] O4:=by
 intro pins s σ H vs us Q I r h
 obtain ⟨e,h⟩:=h
 subst e
 cases r
 exact assignInOrder_nil ⟨σ,H,I,h⟩
theorem Fp (h1:PG X e t) (h2:sD X es u)
  (hs:(assignEach (e::es) X.env).map (·.2) = assign e X.env::(assignEach es X.env).map (·.2):=by rfl):sD X (e::es) (Nn t u):=by
 intro pins s σ H vs us Q I r h
 obtain ⟨v,vr,e1,h⟩:=h
 subst e1
 cases r with
 | cons r rr=>
   rw [hs]
   refine assignInOrder_cons (aW (h1 pins s σ H _ _ _ I r h) λ_ s1 ⟨σ1,H1,I1,q1⟩=>?_)
   exact h2 pins s1 σ1 H1 _ _ Q I1 rr q1
def OK (K:W.Frag) (n:Nat) (t:vf):TG:=λv σ H Q=>∃ a xs,v = .ref a/\dz K H a xs/\xs.length = n/\t xs σ H Q
theorem Kr (hc:X.calm = true) (h:sD X es t)
  (hn:(assignEach es X.env).length = n:=by rfl) (hst:(assignEach es X.env).findIdx? (·.1) = none:=by rfl):PG X (.Tuple es k pos) (OK X.K n t):=by
 intro pins s σ H v u Q I r hw
 obtain ⟨a,xs,e1,hq,hl,hw⟩:=hw
 subst e1
 cases r
 obtain ⟨its,rv,ht,hz⟩:=I.tuple hq
 refine assign_Tuple_tuple (I.ok.hd hc) ht (by simp [hn,←hl,rv.length]) hst λh' hx=>?_
 have I1:Inv X pins σ H { s with heap:=h' }:=I.kept (t':=s.toks) λb o e=>hx b o (Nat.ne_of_lt (Heap.lt_size e)) e
 exact h pins _ σ H xs _ Q I1 (by simpa using rv) hw
def uQ (te:TE) (g:TG):TS:=λD σ H=>te σ H λx H1=>g x σ H1 D.nx
theorem Mo (hN:X.N.Nodup) (hi:X.N[i]? = some x) (hx:Loc X.env.scope x) (he:PE X e te) (hs:swapsWith e (some (.Name x pos')) pos.line X.env = pure false:=by rfl) (han:X.dZ = none\/i∈X.iW:=by first | exact .inl rfl | exact .inr (by decide) | assumption) (hf:X.fn x = true\/X.env.scope.names.lookup x = some .local:=by first | exact .inl rfl | exact .inr rfl | assumption):
  PS X (.Assign [.Name x pos'] e pos) (uQ te (la i)):=by
 intro pins s σ H D I h
 refine wpAny_Assign_Name (aW (he pins s σ H _ I h) λv s1 ⟨y,H1,I1,r1,q1⟩=>?_) hs
 exact w8 I1 hN hi hx r1 (λs2 I2=>⟨_,H1,I2,q1⟩) han hf
end
section
variable {X:Cx} {pos:Pos}
def Lq (c:TT) (tb:TS):TS:=λD σ H=>∃ W:Nat->St->Hp->Prop,(∃ m,W m σ H)/\∀ m σ H,W m σ H->
 c σ H λb H1=>if b = true then ∃ N:St->Hp->Prop,(∀ σ' H',N σ' H'->∃ m',m' < m/\W m' σ' H')/\tb { D with nx:=N,ct:=N,bk:=D.nx } σ H1 else D.nx σ H1
theorem GC (hp:PassesOwn (model X.prog X.w) X.A X.env X.xe) (hc:PT X c tc) (hb:ia X body tb):PS X (.While c body [] pos) (Lq tc tb):=by
 intro pins s σ H D I h
 obtain ⟨W,⟨m0,w0⟩,turn⟩:=h
 refine wpAny_While (codeAny_whileLoop (λn s'=>∃ σ' H',Inv X pins σ' H' s'/\W n σ' H') ?_ m0 ⟨σ,H,I,w0⟩)
 rintro n s1 ⟨σ1,H1,I1,w1⟩
 refine wpAny_passesOwn hp (aW (hc pins s1 σ1 H1 _ I1 (turn n σ1 H1 w1)) λb s2 ⟨H2,I2,q2⟩=>?_)
 cases b with
 | true=>
   obtain ⟨N,hN,q2⟩:=q2
   rw [if_pos rfl]
   refine wpAny_passesOwn hp (aW (hb pins s2 σ1 H2 _ I2 q2) λf s3 q3=>?_)
   cases f with
   | next=>
     obtain ⟨σ3,H3,I3,n3⟩:=q3
     obtain ⟨m',hm,w3⟩:=hN σ3 H3 n3
     exact ⟨m',hm,σ3,H3,I3,w3⟩
   | cont=>
     obtain ⟨σ3,H3,I3,n3⟩:=q3
     obtain ⟨m',hm,w3⟩:=hN σ3 H3 n3
     exact ⟨m',hm,σ3,H3,I3,w3⟩
   | brk=>exact q3
   | ret v=>exact q3
 | false=>
   rw [if_neg Bool.false_ne_true]
   exact wpAny_execs_nil ⟨σ1,H2,I2,q2⟩
end
structure It where
 go:Nat->Hp->Prop
 AR:Nat->Hp->V->Hp->Prop
 stop:Nat->Hp->Prop
def nY (X:Cx) (pins:List (Addr×Obj)) (H:Hp) (b:Addr):Prop:=
 H b = none/\b≠X.env.locals/\b∉X.fs/\(b∈X.ex\/X.s₀.heap.objs.size<=b)/\(∀ x c,X.env.cells.lookup x = some c->c≠b)/\∀ p∈X.pn++pins,p.1≠b
theorem Inv.rj (I:Inv X pins σ H s) (hb:s.heap.objs.size<=b) (hn:H' b = none):nY X pins H' b:=by
 refine ⟨hn,Nat.ne_of_gt (Nat.lt_of_lt_of_le I.lt hb),I.Pk hb,.inr (Nat.le_trans I.sz hb),λx c e z=>?_,λp hp z=>?_⟩
 ·obtain ⟨v,q⟩:=I.cell x c e
  exact absurd (Nat.lt_of_lt_of_le q.lt (by rw [z]; exact hb)) (Nat.lt_irrefl _)
 ·exact absurd (Nat.lt_of_lt_of_le (Heap.lt_size (I.pin p hp).1) (by rw [z]; exact hb)) (Nat.lt_irrefl _)
structure Turn (P:Program) (w:World) (K:W.Frag) (tg:Expr) (J:It) (fp:List Addr) (it:Addr) (tn:Nat->Heap->Prop):Prop where
 mem:it∈fp
 obj:∀ i h,tn i h->∀ b∈fp,∃ o,h.get? b = some o/\∀ v,o.data≠.cell v
 keep:∀ i h h',tn i h->(∀ b∈fp,∀ o,h.get? b = some o->h'.get? b = some o)->tn i h'
 item:∀ (X:Cx),X.prog = P->X.w = w->X.K = K->X.calm = true->∀ (i:Nat) (pins:List (Addr×Obj)) (s:Shared) (σ:St) (H:Hp) (E:Value->Shared->Prop),Inv X pins σ H s->(∀ b∈fp,nY X pins H b)->tn i s.heap->J.go i H->
  wpAny (model P w) X.A (pyNext (.ref it)) (λr s1=>∃ u,r = some u/\
   wpAny (model P w) X.A (letOwnedTupleGo tg (.ref it) u) (λ_ s2=>∃ x H',Inv X pins σ H' s2/\RelV x u/\J.AR i H x H'/\tn (i+1) s2.heap/\∀ b∈fp,H' b = none) E s1) E s
 done:∀ (X:Cx),X.prog = P->X.w = w->X.K = K->X.calm = true->∀ (i:Nat) (pins:List (Addr×Obj)) (s:Shared) (σ:St) (H:Hp) (E:Value->Shared->Prop),Inv X pins σ H s->(∀ b∈fp,nY X pins H b)->tn i s.heap->J.stop i H->
  wpAny (model P w) X.A (pyNext (.ref it)) (λr s1=>r = none/\Inv X pins σ H s1) E s
 self:∀ (A:Around) (i:Nat) (s:Shared) (Q:Value->Shared->Prop) (E:Value->Shared->Prop),tn i s.heap->Q (.ref it) s->wpAny (model P w) A (pyIter (.ref it)) Q E s
abbrev TI:=St->Hp->(It->Hp->Prop)->Prop
def Kw (X:Cx) (pins:List (Addr×Obj)) (σ:St) (tg:Expr) (R:It->Hp->Prop) (itv:Value) (s2:Shared):Prop:=
 ∃ (it:Addr) (fp:List Addr) (tn:Nat->Heap->Prop) (J:It) (H':Hp),itv = .ref it/\Inv X pins σ H' s2/\Turn X.prog X.w X.K tg J fp it tn/\tn 0 s2.heap/\(∀ b∈fp,nY X pins H' b)/\R J H'
def PI (X:Cx) (tg iter:Expr) (wi:TI):Prop:=
 ∀ (pins:List (Addr×Obj)) (s:Shared) (σ:St) (H:Hp) (R:It->Hp->Prop),Inv X pins σ H s->wi σ H R->
   wpAny (model X.prog X.w) X.A (eval iter X.env) (λv s1=>wpAny (model X.prog X.w) X.A (pyIter v) (Kw X pins σ tg R) X.xe s1) X.xe s
theorem wC (ho:s.heap.get? it = some o) (hc:o.cls = .type n) (hd:o.data = .fields vs)
  (hn:["enumerate","zip","dict_itemiterator","dict_reverseitemiterator","odict_iterator","itertools.zip_longest","itertools.pairwise"].contains n = false) (hQ:Q () s):wpAny M A (letOwnedTupleGo tg (.ref it) u) Q E s:=by
 unfold letOwnedTupleGo
 cases tg <;> first
  | exact wpAny_pure hQ
  | (cases u <;> first
      | exact wpAny_pure hQ
      | (refine wpAny_bind (wpAny_load ho ?_)
         rw [hc,hd]
         show wpAny M A (if (["enumerate","zip","dict_itemiterator","dict_reverseitemiterator","odict_iterator","itertools.zip_longest","itertools.pairwise"].contains n && vs[0]? == some (rawInt _)) = true then _ else _) Q E s
         rw [if_neg (by intro h; rw [hn,Bool.false_and] at h; cases h)]
         exact wpAny_pure hQ))
def Hj (K:W.Frag) (a:Addr):It:=
 ⟨λi H=>∃ xs x,cR K H a xs/\xs[i]? = some x,λi H x H'=>H' = H/\∀ xs,cR K H a xs->xs[i]? = some x,λi H=>∃ xs,cR K H a xs/\xs.length<=i⟩
def Hg (K:W.Frag) (a:Addr):It:=
 ⟨λi H=>∃ xs x,dz K H a xs/\xs[i]? = some x,λi H x H'=>H' = H/\∀ xs,dz K H a xs->xs[i]? = some x,λi H=>∃ xs,dz K H a xs/\xs.length<=i⟩
def E7 (lo:Int) (n:Nat):It:=⟨λi _=>i < n,λi H x H'=>H' = H/\x = .int (lo+i),λi _=>n<=i⟩
theorem Dh {P:Program} {w:World} {K:W.Frag} {tg:Expr} (a it:Addr):Turn P w K tg (Hj K a) [it] it (λi h=>h.IsListIter it a i) where
 mem:=by simp
 obj:=λi h st b hb=>by
  have e:b = it:=by simpa using hb
  subst e
  obtain ⟨o,e,c,d⟩:=st
  exact ⟨o,e,λv z=>by rw [d] at z; cases z⟩
 keep:=λi h h' st k=>st.at λo e=>k it (by simp) o e
 item:=by
  intro X hP hw hK hc i pins s σ H E I hf st hg
  subst hP hw hK
  obtain ⟨xs,x,hq,hx⟩:=hg
  obtain ⟨its,rv,p,hz⟩:=I.list hq
  obtain ⟨u,hu,ru⟩:=rv.get hx
  obtain ⟨f0,f1,f2,f3,f4,f5⟩:=hf it (by simp)
  refine wpAny_pyNext_list_item st p.isList (x:=u) (by simpa using hu) λh' st' sb=>?_
  have I1:Inv X pins σ H { s with heap:=h' }:=I.turned (t':=s.toks) (λb o hb e=>(sb.2 b hb).trans e) f0 f1 f3 f4 f5
  obtain ⟨o,e,c,d⟩:=id st'
  exact ⟨u,rfl,wC (s:={ s with heap:=h' }) e c d (by decide) ⟨x,H,I1,ru,⟨rfl,λys hy=>by rw [I.rH hy hq]; exact hx⟩,st',λb hb=>(hf b hb).1⟩⟩
 done:=by
  intro X hP hw hK hc i pins s σ H E I hf st hg
  subst hP hw hK
  obtain ⟨xs,hq,hx⟩:=hg
  obtain ⟨its,rv,p,hz⟩:=I.list hq
  obtain ⟨f0,f1,f2,f3,f4,f5⟩:=hf it (by simp)
  have hl:=rv.length
  exact wpAny_pyNext_list_end (I.ok.hd hc) st p.isList (by simp; omega) λh' eb=>⟨rfl,I.turned (t':=s.toks) (λb o hb e=>eb b o hb e) f0 f1 f3 f4 f5⟩
 self:=λ_ _ _ _ _ st h=>wpAny_pyIter_listiter st h
theorem BN {P:Program} {w:World} {K:W.Frag} {tg:Expr} (a it:Addr):Turn P w K tg (Hg K a) [it] it (λi h=>h.IsTupleIter it a i) where
 mem:=by simp
 obj:=λi h st b hb=>by
  have e:b = it:=by simpa using hb
  subst e
  obtain ⟨o,e,c,d⟩:=st
  exact ⟨o,e,λv z=>by rw [d] at z; cases z⟩
 keep:=λi h h' st k=>st.at λo e=>k it (by simp) o e
 item:=by
  intro X hP hw hK hc i pins s σ H E I hf st hg
  subst hP hw hK
  obtain ⟨xs,x,hq,hx⟩:=hg
  obtain ⟨its,rv,p,hz⟩:=I.tuple hq
  obtain ⟨u,hu,ru⟩:=rv.get hx
  obtain ⟨f0,f1,f2,f3,f4,f5⟩:=hf it (by simp)
  refine wpAny_pyNext_tuple_item st (show s.heap.IsTuple a its.toArray from p) (x:=u) (by simpa using hu) λh' st' sb=>?_
  have I1:Inv X pins σ H { s with heap:=h' }:=I.turned (t':=s.toks) (λb o hb e=>(sb.2 b hb).trans e) f0 f1 f3 f4 f5
  obtain ⟨o,e,c,d⟩:=id st'
  exact ⟨u,rfl,wC (s:={ s with heap:=h' }) e c d (by decide) ⟨x,H,I1,ru,⟨rfl,λys hy=>by rw [I.vk hy hq]; exact hx⟩,st',λb hb=>(hf b hb).1⟩⟩
 done:=by
  intro X hP hw hK hc i pins s σ H E I hf st hg
  subst hP hw hK
  obtain ⟨xs,hq,hx⟩:=hg
  obtain ⟨its,rv,p,hz⟩:=I.tuple hq
  obtain ⟨f0,f1,f2,f3,f4,f5⟩:=hf it (by simp)
  have hl:=rv.length
  exact wpAny_pyNext_tuple_end (I.ok.hd hc) st (show s.heap.IsTuple a its.toArray from p) (by simp; omega) λh' eb=>⟨rfl,I.turned (t':=s.toks) (λb o hb e=>eb b o hb e) f0 f1 f3 f4 f5⟩
 self:=λ_ _ _ _ _ st h=>wpAny_pyIter_tupleiter st h
theorem CC {P:Program} {w:World} {K:W.Frag} {tg:Expr} (it:Addr) (lo:Int) (n:Nat):Turn P w K tg (E7 lo n) [it] it (λi h=>IsRangeIter h it (lo+ (i:Nat) * 1) ((n:Int) - (i:Nat)) 1) where
 mem:=by simp
 obj:=λi h st b hb=>by
  have e:b = it:=by simpa using hb
  subst e
  exact ⟨_,st,λv z=>by
   have z':Data.fields _ = Data.cell v:=z
   cases z'⟩
 keep:=λi h h' st k=>k it (by simp) _ st
 item:=by
  intro X hP hw hK hc i pins s σ H E I hf st hg
  subst hP hw hK
  obtain ⟨f0,f1,f2,f3,f4,f5⟩:=hf it (by simp)
  have W:=Walks.range (prog:=X.prog) (w:=X.w) (I.ok.hd hc) it lo 1 n
  refine W.item i s _ _ hg st λv h' tk hv st' kk=>?_
  obtain ⟨t,rfl⟩:=hv
  have I1:Inv X pins σ H { s with heap:=h',toks:=tk }:=I.turned (λb o hb e=>kk b o (by simpa using hb) e) f0 f1 f3 f4 f5
  refine ⟨_,rfl,wC (s:={ s with heap:=h',toks:=tk }) (n:="range_iterator") st' rfl rfl (by decide) ⟨.int (lo+i),H,I1,⟨t,?_⟩,⟨rfl,rfl⟩,st',λb hb=>(hf b hb).1⟩⟩
  rw [Int.mul_one]
 done:=by
  intro X hP hw hK hc i pins s σ H E I hf st hg
  subst hP hw hK
  obtain ⟨f0,f1,f2,f3,f4,f5⟩:=hf it (by simp)
  exact wpAny_pyNext_range_end (I.ok.hd hc) st (by have:n<=i:=hg; omega) λh' eb=>⟨rfl,I.turned (t':=s.toks) (λb o hb e=>eb b o hb e) f0 f1 f3 f4 f5⟩
 self:=λ_ _ _ _ _ st h=>wpAny_pyIter_rangeiter st h
end L2
namespace L2
open PySem PySem.Spec PyProof.Rows
section
variable {X:Cx} {tg:Expr}
theorem xk {pins:List (Addr×Obj)} {σ:St} {H:Hp} {s:Shared} {R:It->Hp->Prop} {E:Value->Shared->Prop} {lo hi:Int} {t u v:Tok} {tk:Nat} (I:Inv X pins σ H s) (h1:-(2 ^ 62)<=lo) (h2:lo < 2 ^ 62) (h3:-(2 ^ 62)<=hi) (h4:hi < 2 ^ 62)
  (q:R (E7 lo (hi - lo).toNat) H):wpAny (model X.prog X.w) X.A (pyIter (.ref s.heap.objs.size)) (Kw X pins σ tg R) E { s with heap:=s.heap.push { cls:=.type "range",data:=.fields #[.int lo t,.int hi u,.int 1 v] },toks:=tk }:=by
 refine wpAny_pyIter_range (IsRange.new ..) (small_one h1 h2 h3 h4) ?_
 have I1:Inv X pins σ H { s with heap:=s.heap.push { cls:=.type "range",data:=.fields #[.int lo t,.int hi u,.int 1 v] },toks:=tk }:=I.kept λb o e=>Heap.get?_push_of_some _ e
 refine ⟨(s.heap.push { cls:=.type "range",data:=.fields #[.int lo t,.int hi u,.int 1 v] }).objs.size,[(s.heap.push { cls:=.type "range",data:=.fields #[.int lo t,.int hi u,.int 1 v] }).objs.size],_,_,H,rfl,
  I1.kept (t':=tk) λb o e=>Heap.get?_push_of_some _ e,CC _ lo (hi - lo).toNat,?_,λb hb=>?_,q⟩
 ·have e1:lo+ ((0:Nat):Int) * 1 = lo:=by simp
  have e2:(((hi - lo).toNat:Nat):Int) - ((0:Nat):Int) = Builtin.Range.rangeSize lo hi 1:=by rw [rangeSize_one]; split <;> omega
  show IsRangeIter _ _ (lo+ ((0:Nat):Int) * 1) ((((hi - lo).toNat:Nat):Int) - ((0:Nat):Int)) 1
  rw [e1,e2]
  exact Heap.get?_push_size _ rfl
 ·have e:b = (s.heap.push { cls:=.type "range",data:=.fields #[.int lo t,.int hi u,.int 1 v] }).objs.size:=by simpa using hb
  subst e
  exact I1.rj (Nat.le_refl _) (I1.bt.fresh (Nat.le_refl _))
def Pe (wi:TI) (g:TG) (tb:TS):TS:=λD σ H=>wi σ H λJ H1=>∃ W:Nat->Nat->St->Hp->Prop,(∃ m,W 0 m σ H1)/\∀ i m σ H,W i m σ H->
 (J.stop i H/\D.nx σ H)\/(J.go i H/\∃ N:St->Hp->Prop,(∀ σ' H',N σ' H'->∃ m',m' < m/\W (i+1) m' σ' H')/\∀ x H',J.AR i H x H'->g x σ H' λσ2 H2=>tb { D with nx:=N,ct:=N,bk:=D.nx } σ2 H2)
def oU (fp:List Addr) (h:Heap):List (Addr×Obj):=fp.filterMap λb=>(h.get? b).map λo=>(b,o)
theorem ka (hb:b∈fp) (e:h.get? b = some o):(b,o)∈oU fp h:=List.mem_filterMap.mpr ⟨b,hb,by rw [e]; rfl⟩
theorem Es (hp:p∈oU fp h):p.1∈fp/\h.get? p.1 = some p.2:=by
 obtain ⟨b,hb,e⟩:=List.mem_filterMap.mp hp
 cases q:h.get? b with
 | none=>rw [q] at e; cases e
 | some o=>
   rw [q] at e
   have e':(b,o) = p:=Option.some.inj e
   subst e'
   exact ⟨hb,q⟩
theorem Inv.pinned (I:Inv X pins σ H s) (hf:∀ b∈fp,nY X pins H b) (ho:∀ b∈fp,∃ o,s.heap.get? b = some o/\∀ v,o.data≠.cell v):Inv X (pins++oU fp s.heap) σ H s:=
 I.Aj λp hp=>(List.mem_append.mp hp).elim (λz=>I.pin p (List.mem_append_right _ z)) λz=>by
   obtain ⟨hb,e⟩:=Es z
   obtain ⟨f0,f1,f2,_⟩:=hf p.1 hb
   obtain ⟨o,e',d⟩:=ho p.1 hb
   rw [e] at e'; cases e'
   exact ⟨e,f0,f1,f2,d⟩
theorem Inv.nU (I:Inv X (pins++pl) σ H s):Inv X pins σ H s:=I.Aj λp hp=>I.pin p (List.mem_append_right _ (List.mem_append_left _ hp))
theorem Fc (hp:PassesOwn (model X.prog X.w) X.A X.env X.xe) (hc:X.calm = true) (hi:PI X tg iter wi) (hg:PG X tg g) (hb:ia X body tb)
  (hs:∀ x,foldedSetIterable iter X.env x = pure x:=by intro _; rfl):PS X (.For tg iter body [] pos) (Pe wi g tb):=by
 intro pins s σ H D I h
 refine wpAny_For (aW (hi pins s σ H _ I h) λv s1 h1=>aW h1 λitv s2 h2=>?_) hs
 obtain ⟨it,fp,tn,J,H2,e,I2,T,st2,f2,W,⟨m0,w0⟩,turn⟩:=h2
 subst e
 have stat:∀ {H':Hp},(∀ b∈fp,H' b = none)->∀ b∈fp,nY X pins H' b:=λhn b hb=>⟨hn b hb,(f2 b hb).2⟩
 refine codeAny_forLoop_any (λn s'=>∃ i σ' H',Inv X pins σ' H' s'/\tn i s'.heap/\(∀ b∈fp,H' b = none)/\W i n σ' H') ?_ m0 ⟨0,σ,H2,I2,st2,λb hb=>(f2 b hb).1,w0⟩
 rintro n s3 ⟨i,σ3,H3,I3,st3,fr3,w3⟩
 rcases turn i n σ3 H3 w3 with ⟨stop,qn⟩ | ⟨go,N,hN,step⟩
 ·refine wpAny_passesOwn hp (aW (T.done X rfl rfl rfl hc i pins s3 σ3 H3 X.xe I3 (stat fr3) st3 stop) λr s4 ⟨hr,I4⟩=>?_)
  subst hr
  exact wpAny_execs_nil ⟨σ3,H3,I4,qn⟩
 ·refine wpAny_passesOwn hp (aW (T.item X rfl rfl rfl hc i pins s3 σ3 H3 X.xe I3 (stat fr3) st3 go) λr s4 ⟨u,hr,h4⟩=>?_)
  subst hr
  refine wpAny_passesOwn hp (aW h4 λ_ s5 ⟨x,H5,I5,r5,y5,st5,fr5⟩=>?_)
  have I5':=I5.pinned (stat fr5) (T.obj _ _ st5)
  refine wpAny_passesOwn hp (aW (hg _ s5 σ3 H5 x u _ I5' r5 (step x H5 y5)) λ_ s6 ⟨σ6,H6,I6,q6⟩=>?_)
  refine wpAny_passesOwn hp (aW (hb _ s6 σ6 H6 _ I6 q6) λf s7 q7=>?_)
  have again:∀ {σ7:St} {H7:Hp},Inv X (pins++oU fp s5.heap) σ7 H7 s7->N σ7 H7->∃ m,m < n/\∃ i σ' H',Inv X pins σ' H' s7/\tn i s7.heap/\(∀ b∈fp,H' b = none)/\W i m σ' H':=λ{σ7 H7} I7 n7=>by
   obtain ⟨m',hm,w7⟩:=hN σ7 H7 n7
   refine ⟨m',hm,i+1,σ7,H7,I7.nU,T.keep _ _ _ st5 λb hb o e=>(I7.pin (b,o) (List.mem_append_right _ (List.mem_append_right _ (ka hb e)))).1,λb hb=>?_,w7⟩
   obtain ⟨o,e,d⟩:=T.obj _ _ st5 b hb
   exact (I7.pin (b,o) (List.mem_append_right _ (List.mem_append_right _ (ka hb e)))).2.1
  cases f with
  | next=>obtain ⟨σ7,H7,I7,n7⟩:=q7; exact again I7 n7
  | cont=>obtain ⟨σ7,H7,I7,n7⟩:=q7; exact again I7 n7
  | brk=>obtain ⟨σ7,H7,I7,q7⟩:=q7; exact ⟨σ7,H7,I7.nU,q7⟩
  | ret v=>obtain ⟨x7,σ7,H7,I7,r7,q7⟩:=q7; exact ⟨x7,σ7,H7,I7.nU,r7,q7⟩
end
end L2
namespace L2
open PySem PySem.Spec PyProof.Rows
abbrev R2:=V->V->Hp->VK->Prop
def b4 (X:Cx) (f:Value->Value->Sem Value) (r:R2):Prop:=
 ∀ (pins:List (Addr×Obj)) (s:Shared) (σ:St) (H:Hp) (x y:V) (v u:Value) (Q:VK),Inv X pins σ H s->RelV x v->RelV y u->r x y H Q->
   wpAny (model X.prog X.w) X.A (f v u) (EP X pins σ Q) X.xe s
def Ls (X:Cx) (f:Value->Sem Value) (r:V->Hp->VK->Prop):Prop:=
 ∀ (pins:List (Addr×Obj)) (s:Shared) (σ:St) (H:Hp) (x:V) (v:Value) (Q:VK),Inv X pins σ H s->RelV x v->r x H Q->
   wpAny (model X.prog X.w) X.A (f v) (EP X pins σ Q) X.xe s
def cq (X:Cx) (f:Value) (r:List V->Hp->VK->Prop):Prop:=
 ∀ (pins:List (Addr×Obj)) (s:Shared) (σ:St) (H:Hp) (xs:List V) (us:List Value) (Q:VK),Inv X pins σ H s->Vals xs us->r xs H Q->
   wpAny (model X.prog X.w) X.A (call f us) (EP X pins σ Q) X.xe s
def O8 (X:Cx) (r:V->Hp->(Bool->Hp->Prop)->Prop):Prop:=
 ∀ (pins:List (Addr×Obj)) (s:Shared) (σ:St) (H:Hp) (x:V) (v:Value) (Q:Bool->Hp->Prop),Inv X pins σ H s->RelV x v->r x H Q->
   wpAny (model X.prog X.w) X.A (truthy v) (TP X pins σ Q) X.xe s
def xn (r:R2) (ta tb:TE):TE:=λσ H Q=>ta σ H λx H1=>tb σ H1 λy H2=>r x y H2 Q
def Pw (r:V->Hp->VK->Prop) (ta:TE):TE:=λσ H Q=>ta σ H λx H1=>r x H1 Q
def rI (C:Int->Int->Prop) (g:Int->Int->V):R2:=λx y H Q=>∃ i j,x = .int i/\y = .int j/\C i j/\Q (g i j) H
def qR (g:Int->Int->V):R2:=λx y H Q=>∃ i j,x = .int i/\y = .int j/\Q (g i j) H
def rU (g:Int->V):V->Hp->VK->Prop:=λx H Q=>∃ i,x = .int i/\Q (g i) H
section
variable {X:Cx} {a b c:Expr} {ta tb tc:TE} {pos:Pos}
theorem GO (ha:PE X a ta) (hb:PE X b tb) {pins:List (Addr×Obj)} {s:Shared} {σ:St} {H:Hp} {R:V->V->Hp->Prop} (I:Inv X pins σ H s)
  (h:ta σ H λx H1=>tb σ H1 λy H2=>R x y H2) {Q:Value->Shared->Prop} {f:Value->Value->Sem Value}
  (hf:∀ v u s2 x y H2,Inv X pins σ H2 s2->RelV x v->RelV y u->R x y H2->wpAny (model X.prog X.w) X.A (f v u) Q X.xe s2):
  wpAny (model X.prog X.w) X.A (eval a X.env) (λv s₁=>wpAny (model X.prog X.w) X.A (eval b X.env) (λu s₂=>wpAny (model X.prog X.w) X.A (f v u) Q X.xe s₂) X.xe s₁) X.xe s:=by
 refine aW (ha pins s σ H _ I h) λv s1 ⟨x,H1,I1,r1,q1⟩=>?_
 refine aW (hb pins s1 σ H1 _ I1 q1) λu s2 ⟨y,H2,I2,r2,q2⟩=>?_
 exact hf v u s2 x y H2 I2 r1 r2 q2
theorem Of {op:Operator} {r:R2} (ho:b4 X (binaryOp op) r) (ha:PE X a ta) (hb:PE X b tb):PE X (.BinOp a op b pos) (xn r ta tb):=by
 intro pins s σ H Q I h
 exact wpAny_BinOp (GO ha hb I h λv u s2 x y H2 I2 rx ry q=>ho pins s2 σ H2 x y v u Q I2 rx ry q)
theorem Oe (ho:Ls X (unaryOp op) r) (ha:PE X a ta):PE X (.UnaryOp op a pos) (Pw r ta):=by
 intro pins s σ H Q I h
 exact UnaryOp_ (aW (ha pins s σ H _ I h) λv s1 ⟨x,H1,I1,r1,q1⟩=>ho pins s1 σ H1 x v Q I1 r1 q1)
theorem HR {f:Value->Value->Sem Value} {C:Int->Int->Prop} {g:Int->Int->Int}
  (rule:∀ (i j:Int) (t u:Tok) (s:Shared) (Q:Value->Shared->Prop) (E:Value->Shared->Prop),C i j->Q (.int (g i j) s.toks) { s with toks:=s.toks+1 }->wpAny (model X.prog X.w) X.A (f (.int i t) (.int j u)) Q E s):
  b4 X f (rI C λi j=>.int (g i j)):=by
 intro pins s σ H x y v u Q I rx ry h
 obtain ⟨i,j,rfl,rfl,hc,q⟩:=h
 obtain ⟨t,rfl⟩:=rx
 obtain ⟨t',rfl⟩:=ry
 exact rule i j t t' s _ _ hc ⟨.int (g i j),H,I.tok _,⟨_,rfl⟩,q⟩
theorem Kj {f:Value->Value->Sem Value} {g:Int->Int->Int}
  (rule:∀ (i j:Int) (t u:Tok) (s:Shared) (Q:Value->Shared->Prop) (E:Value->Shared->Prop),Q (.int (g i j) s.toks) { s with toks:=s.toks+1 }->wpAny (model X.prog X.w) X.A (f (.int i t) (.int j u)) Q E s):
  b4 X f (qR λi j=>.int (g i j)):=by
 intro pins s σ H x y v u Q I rx ry h
 obtain ⟨i,j,rfl,rfl,q⟩:=h
 obtain ⟨t,rfl⟩:=rx
 obtain ⟨t',rfl⟩:=ry
 exact rule i j t t' s _ _ ⟨.int (g i j),H,I.tok _,⟨_,rfl⟩,q⟩
theorem Bl {f:Value->Value->Sem Value} {g:Int->Int->Bool}
  (rule:∀ (i j:Int) (t u:Tok) (s:Shared) (Q:Value->Shared->Prop) (E:Value->Shared->Prop),Q (.bool (g i j)) s->wpAny (model X.prog X.w) X.A (f (.int i t) (.int j u)) Q E s):
  b4 X f (qR λi j=>.bl (g i j)):=by
 intro pins s σ H x y v u Q I rx ry h
 obtain ⟨i,j,rfl,rfl,q⟩:=h
 obtain ⟨t,rfl⟩:=rx
 obtain ⟨t',rfl⟩:=ry
 exact rule i j t t' s _ _ ⟨.bl (g i j),H,I,rfl,q⟩
def BU (i j:Int):Prop:=0 < j/\j < 1073741824
def BE (i j:Int):Prop:=0<=j/\j<=1000000/\i.natAbs < 2 ^ 64
def lY (i j:Int):Prop:=(-(2 ^ 64) < i/\i < 2 ^ 64)\/(-(2 ^ 64) < j/\j < 2 ^ 64)
theorem lY.ok (h:lY i j):IntMulOk i j:=by
 rcases h with ⟨h1,h2⟩ | ⟨h1,h2⟩
 ·exact .of_left (intBits_le_64 h1 h2)
 ·exact .of_right (intBits_le_64 h1 h2)
theorem Lv:b4 X (binaryOp .Add) (qR λi j=>.int (i+j)):=Kj λ_ _ _ _ _ _ _ q=>add_int q
theorem MC:b4 X (binaryOp .Sub) (qR λi j=>.int (i - j)):=Kj λ_ _ _ _ _ _ _ q=>sub_int q
theorem MJ:b4 X (binaryOp .Mult) (rI lY λi j=>.int (i * j)):=HR λ_ _ _ _ _ _ _ hc q=>mul_int q hc.ok
theorem IM:b4 X (binaryOp .FloorDiv) (rI BU λi j=>.int (i / j)):=HR λi j _ _ _ _ _ hc q=>by
 have h1:(0:Int) < j:=hc.1
 have h2:j < 1073741824:=hc.2
 exact floordiv_int (by omega) (by rw [Int.fdiv_eq_ediv_of_nonneg i (by omega)]; exact q) (.inl (PyProof.noPylong_small (by omega)))
theorem K0:b4 X (binaryOp .Mod) (rI (λ_ j=>0 < j) λi j=>.int (i % j)):=HR λi j _ _ _ _ _ hc q=>by
 have h1:(0:Int) < j:=hc
 exact mod_int' (by omega) (by rw [Int.fmod_eq_emod_of_nonneg i (by omega)]; exact q)
theorem MF:b4 X (binaryOp .Pow) (rI BE λi j=>.int (i ^ j.toNat)):=HR λ_ _ _ _ _ _ _ hc q=>pow_int_small hc.1 hc.2.1 hc.2.2 q
theorem PL {f:Value->Sem Value} {g:Int->Int}
  (rule:∀ (i:Int) (t:Tok) (s:Shared) (Q:Value->Shared->Prop) (E:Value->Shared->Prop),Q (.int (g i) s.toks) { s with toks:=s.toks+1 }->wpAny (model X.prog X.w) X.A (f (.int i t)) Q E s):
  Ls X f (rU λi=>.int (g i)):=by
 intro pins s σ H x v Q I rx h
 obtain ⟨i,rfl,q⟩:=h
 obtain ⟨t,rfl⟩:=rx
 exact rule i t s _ _ ⟨.int (g i),H,I.tok _,⟨_,rfl⟩,q⟩
theorem Ma:Ls X (unaryOp .USub) (rU λi=>.int (-i)):=PL λ_ _ _ _ _ q=>neg_int q
end
def BB:V->V->Bool
 | .non,.non=>true | .non,.int _=>true | .int _,.non=>true | .non,.bl _=>true | .bl _,.non=>true | .non,.str _=>true | .str _,.non=>true
 | .int _,.int _=>true | .bl _,.bl _=>true | .str _,.str _=>true | .byt _,.byt _=>true
 | .int _,.str _=>true | .str _,.int _=>true | .bl _,.str _=>true | .str _,.bl _=>true
 | _,_=>false
def Pt:R2:=λx y H Q=>BB x y = true/\Q (.bl (decide (x = y))) H
def PB:R2:=λx y H Q=>BB x y = true/\Q (.bl (!decide (x = y))) H
theorem AX:decide (V.int i = V.int j) = (i == j):=by
 rw [Bool.eq_iff_iff]
 simp
theorem EK:decide (V.bl i = V.bl j) = (i == j):=by
 rw [Bool.eq_iff_iff]
 simp
theorem Au:decide (V.str i = V.str j) = (i == j):=by
 rw [Bool.eq_iff_iff]
 simp
theorem AZ:decide (V.byt i = V.byt j) = (i.toList == j.toList):=by
 rw [Bool.eq_iff_iff]
 cases i
 cases j
 simp
section
variable {X:Cx} {a b c:Expr} {ta tb tc:TE} {pos:Pos}
theorem bL (I:Inv X pins σ H s) (q:Q (.bl k) H) (e:k = k'):EP X pins σ Q (.bool k') s:=by
 subst e
 exact ⟨.bl k,H,I,rfl,q⟩
theorem Np:b4 X (compareOp .Eq) Pt:=by
 intro pins s σ H x y v u Q I rx ry h
 obtain ⟨hs,q⟩:=h
 cases x with
 | non=>
   cases rx
   cases y with
   | non=>cases ry; exact PySem.EqNone.eq_none_none (bL I q (by simp))
   | bl j=>cases ry; exact PySem.EqNone.eq_none_bool (bL I q (by simp))
   | int j=>obtain ⟨t',rfl⟩:=ry; exact PySem.EqNone.eq_none_int (bL I q (by simp))
   | str j=>obtain ⟨t',rfl⟩:=ry; exact PySem.EqNone.eq_none_str (bL I q (by simp))
   | _=>exact absurd (show false = true from hs) Bool.false_ne_true
 | bl i=>
   cases rx
   cases y with
   | non=>cases ry; exact PySem.EqNone.eq_bool_none (bL I q (by simp))
   | bl j=>cases ry; exact eq_bool (bL I q EK)
   | str j=>obtain ⟨t',rfl⟩:=ry; exact PySem.EqMixed.eq_bool_str (bL I q (by simp))
   | _=>exact absurd (show false = true from hs) Bool.false_ne_true
 | int i=>
   obtain ⟨t,rfl⟩:=rx
   cases y with
   | non=>cases ry; exact PySem.EqNone.eq_int_none (bL I q (by simp))
   | int j=>obtain ⟨t',rfl⟩:=ry; exact eq_int (bL I q AX)
   | str j=>obtain ⟨t',rfl⟩:=ry; exact PySem.EqMixed.eq_int_str (bL I q (by simp))
   | _=>exact absurd (show false = true from hs) Bool.false_ne_true
 | str i=>
   obtain ⟨t,rfl⟩:=rx
   cases y with
   | non=>cases ry; exact PySem.EqNone.eq_str_none (bL I q (by simp))
   | bl j=>cases ry; exact PySem.EqMixed.eq_str_bool (bL I q (by simp))
   | int j=>obtain ⟨t',rfl⟩:=ry; exact PySem.EqMixed.eq_str_int (bL I q (by simp))
   | str j=>obtain ⟨t',rfl⟩:=ry; exact eq_str (bL I q Au)
   | _=>exact absurd (show false = true from hs) Bool.false_ne_true
 | byt i=>
   obtain ⟨t,rfl⟩:=rx
   cases y with
   | byt j=>obtain ⟨t',rfl⟩:=ry; exact PySem.W.eq_bytes (bL I q AZ)
   | _=>exact absurd (show false = true from hs) Bool.false_ne_true
 | _=>cases y <;> exact absurd (show false = true from hs) Bool.false_ne_true
theorem NK:b4 X (compareOp .NotEq) PB:=by
 intro pins s σ H x y v u Q I rx ry h
 obtain ⟨hs,q⟩:=h
 cases x with
 | non=>
   cases rx
   cases y with
   | non=>cases ry; exact PySem.EqNone.ne_none_none (bL I q (by simp))
   | bl j=>cases ry; exact PySem.EqNone.ne_none_bool (bL I q (by simp))
   | int j=>obtain ⟨t',rfl⟩:=ry; exact PySem.EqNone.ne_none_int (bL I q (by simp))
   | str j=>obtain ⟨t',rfl⟩:=ry; exact PySem.EqNone.ne_none_str (bL I q (by simp))
   | _=>exact absurd (show false = true from hs) Bool.false_ne_true
 | bl i=>
   cases rx
   cases y with
   | non=>cases ry; exact PySem.EqNone.ne_bool_none (bL I q (by simp))
   | bl j=>cases ry; exact ne_bool (bL I q (congrArg not EK))
   | str j=>obtain ⟨t',rfl⟩:=ry; exact PySem.EqMixed.ne_bool_str (bL I q (by simp))
   | _=>exact absurd (show false = true from hs) Bool.false_ne_true
 | int i=>
   obtain ⟨t,rfl⟩:=rx
   cases y with
   | non=>cases ry; exact PySem.EqNone.ne_int_none (bL I q (by simp))
   | int j=>obtain ⟨t',rfl⟩:=ry; exact ne_int (bL I q (congrArg not AX))
   | str j=>obtain ⟨t',rfl⟩:=ry; exact PySem.EqMixed.ne_int_str (bL I q (by simp))
   | _=>exact absurd (show false = true from hs) Bool.false_ne_true
 | str i=>
   obtain ⟨t,rfl⟩:=rx
   cases y with
   | non=>cases ry; exact PySem.EqNone.ne_str_none (bL I q (by simp))
   | bl j=>cases ry; exact PySem.EqMixed.ne_str_bool (bL I q (by simp))
   | int j=>obtain ⟨t',rfl⟩:=ry; exact PySem.EqMixed.ne_str_int (bL I q (by simp))
   | str j=>obtain ⟨t',rfl⟩:=ry; exact ne_str (bL I q (congrArg not Au))
   | _=>exact absurd (show false = true from hs) Bool.false_ne_true
 | byt i=>
   obtain ⟨t,rfl⟩:=rx
   cases y with
   | byt j=>obtain ⟨t',rfl⟩:=ry; exact PySem.W.ne_bytes (bL I q (congrArg not AZ))
   | _=>exact absurd (show false = true from hs) Bool.false_ne_true
 | _=>cases y <;> exact absurd (show false = true from hs) Bool.false_ne_true
theorem Nl:b4 X (compareOp .Lt) (qR λi j=>.bl (decide (i < j))):=Bl λ_ _ _ _ _ _ _ q=>lt_int q
theorem NH:b4 X (compareOp .LtE) (qR λi j=>.bl (decide (i<=j))):=Bl λ_ _ _ _ _ _ _ q=>le_int q
theorem NG:b4 X (compareOp .Gt) (qR λi j=>.bl (decide (j < i))):=Bl λ_ _ _ _ _ _ _ q=>gt_int q
theorem NV:b4 X (compareOp .GtE) (qR λi j=>.bl (decide (j<=i))):=Bl λ_ _ _ _ _ _ _ q=>ge_int q
theorem CW:b4 X (compareOp .Lt) (λx y H Q=>∃ i j,x = .str i/\y = .str j/\Q (.bl (decide (i.cps.toList < j.cps.toList))) H):=by
 intro pins s σ H x y v u Q I rx ry h
 obtain ⟨i,j,rfl,rfl,q⟩:=h
 obtain ⟨t,rfl⟩:=rx
 obtain ⟨t',rfl⟩:=ry
 exact lt_str (bL I q rfl)
theorem E6:b4 X (compareOp .In) (λx y H Q=>∃ i j,x = .str i/\y = .str j/\Q (.bl (!(Builtin.Str.occurrences j i 0 j.length 1).isEmpty)) H):=by
 intro pins s σ H x y v u Q I rx ry h
 obtain ⟨i,j,rfl,rfl,q⟩:=h
 obtain ⟨t,rfl⟩:=rx
 obtain ⟨t',rfl⟩:=ry
 exact in_str (bL I q rfl)
theorem xv:b4 X (compareOp .NotIn) (λx y H Q=>∃ i j,x = .str i/\y = .str j/\Q (.bl (!(!(Builtin.Str.occurrences j i 0 j.length 1).isEmpty))) H):=by
 intro pins s σ H x y v u Q I rx ry h
 obtain ⟨i,j,rfl,rfl,q⟩:=h
 obtain ⟨t,rfl⟩:=rx
 obtain ⟨t',rfl⟩:=ry
 exact notIn_str (bL I q rfl)
theorem b4.or (h:b4 X f r) (h':b4 X f r'):b4 X f (λx y H Q=>r x y H Q\/r' x y H Q):=by
 intro pins s σ H x y v u Q I rx ry q
 rcases q with q | q
 ·exact h pins s σ H x y v u Q I rx ry q
 ·exact h' pins s σ H x y v u Q I rx ry q
theorem tf (b:Expr) (h:op≠.In:=by decide) (h2:op≠.NotIn:=by decide):behindInMarks op b = false:=by
 have e1:(op == CmpOp.In) = false:=by cases op <;> first | rfl | exact absurd rfl h
 have e2:(op == CmpOp.NotIn) = false:=by cases op <;> first | rfl | exact absurd rfl h2
 cases b <;> simp [behindInMarks,e1,e2]
theorem Jh (ho:b4 X (compareOp op) r) (ha:PE X a ta) (hb:PE X b tb) (hm:behindInMarks op b = false):PE X (.Compare a [op] [b] pos) (xn r ta tb):=by
 intro pins s σ H Q I h
 exact wpAny_Compare1 (GO ha hb I h λv u s2 x y H2 I2 rx ry q=>ho pins s2 σ H2 x y v u Q I2 rx ry q) hm
def Mu (K:W.Frag) (x:V) (H:Hp) (k:Bool):Prop:=
 match x with
 | .non=>k = false
 | .bl b=>k = b
 | .int i=>k = (i != 0)
 | .str y=>y.length<=sizeLine/\k = ((y.length:Int) != 0)
 | .byt y=>y.size<=sizeLine/\k = ((y.size:Int) != 0)
 | .ref p=>(∃ xs,cR K H p xs/\k = !xs.isEmpty)\/(∃ xs,dz K H p xs/\k = !xs.isEmpty)\/∃ kvs,H p = some (.dK kvs)/\k = !kvs.isEmpty
 | _=>False
theorem Cm {κ:Type} {kvs:List (κ×V)} {vs:List (κ×Value)} (r:KV kvs vs):(!vs.isEmpty) = !kvs.isEmpty:=by
 cases r <;> rfl
theorem tL (r:Vals xs its):(!its.toArray.isEmpty) = !xs.isEmpty:=by
 cases r <;> simp
theorem kQ:(sizeLine:Nat) < 2 ^ 63:=by rw [sizeLine_eq]; decide
theorem Lb:O8 X (λx H Q=>∃ k,Mu X.K x H k/\Q k H):=by
 intro pins s σ H x v Q I rx h
 obtain ⟨k,e,q⟩:=h
 have hl:=kQ
 have hs:sizeLine = 16777216:=sizeLine_eq
 cases x with
 | non=>
   cases rx
   have e':k = false:=e
   subst e'
   exact truthy_none ⟨H,I,q⟩
 | bl b=>
   cases rx
   have e':k = b:=e
   subst e'
   exact wpAny_truthy_bool ⟨H,I,q⟩
 | int i=>
   obtain ⟨t,rfl⟩:=rx
   have e':k = (i != 0):=e
   subst e'
   exact PySem.P.truthy_int ⟨H,I,q⟩
 | str y=>
   obtain ⟨t,rfl⟩:=rx
   obtain ⟨hy,e'⟩:y.length<=sizeLine/\k = ((y.length:Int) != 0):=e
   subst e'
   exact PySem.P.truthy_str (by omega) ⟨H,I.tok _,q⟩
 | byt y=>
   obtain ⟨t,rfl⟩:=rx
   obtain ⟨hy,e'⟩:y.size<=sizeLine/\k = ((y.size:Int) != 0):=e
   subst e'
   exact PySem.W.truthy_bytes (by omega) ⟨H,I.tok _,q⟩
 | ref p=>
   cases rx
   have e':(∃ xs,cR X.K H p xs/\k = !xs.isEmpty)\/(∃ xs,dz X.K H p xs/\k = !xs.isEmpty)\/∃ kvs,H p = some (.dK kvs)/\k = !kvs.isEmpty:=e
   rcases e' with ⟨xs,hx,e'⟩ | ⟨xs,hx,e'⟩ | ⟨kvs,hx,e'⟩
   ·subst e'
    obtain ⟨its,r,pl,hz⟩:=I.list hx
    have hlen:=r.length
    exact wpAny_truthy_list pl.isList (by simp only [List.size_toArray]; omega) ⟨H,I.tok _,by rw [tL r]; exact q⟩
   ·subst e'
    obtain ⟨its,r,pl,hz⟩:=I.tuple hx
    have hlen:=r.length
    exact truthy_tuple pl (by simp only [List.size_toArray]; omega) ⟨H,I.tok _,by rw [tL r]; exact q⟩
   ·subst e'
    obtain ⟨hz,hS,vs,r,m⟩:kvs.length<=sizeLine/\(p == sysModules) = false/\∃ vs,KV kvs vs/\s.heap.DictOf (gR X.prog X.w) p vs:=I.bt p _ hx
    have hlen:kvs.length = vs.length:=Paired.length r
    exact wpAny_truthy_dict hS m (by omega) ⟨H,I.tok _,by rw [Cm r]; exact q⟩
 | _=>exact (show False from e).elim
theorem Bw:b4 X (binaryOp .Add) (λx y H Q=>∃ i j,x = .str i/\y = .str j/\i.length+j.length<=sizeLine/\Q (.str (i++j)) H):=by
 intro pins s σ H x y v u Q I rx ry h
 obtain ⟨i,j,rfl,rfl,hz,q⟩:=h
 obtain ⟨t,rfl⟩:=rx
 obtain ⟨t',rfl⟩:=ry
 exact add_str (λt' tk=>⟨.str (i++j),H,I.tok _,⟨_,rfl⟩,q⟩) hz
theorem vals1 (r:Vals [x] us):∃ u,us = [u]/\RelV x u:=by
 cases r with
 | cons r1 r2=>cases r2; exact ⟨_,rfl,r1⟩
theorem vals2 (r:Vals [x,y] us):∃ u w',us = [u,w']/\RelV x u/\RelV y w':=by
 cases r with
 | cons r1 r2=>
   cases r2 with
   | cons r3 r4=>cases r4; exact ⟨_,_,rfl,r1,r3⟩
end
end L2
namespace L2
open PySem PySem.Spec PyProof.Rows
structure rF (h:Heap) (x dx C:Addr) (mA:Str->Option Value):Prop where
 obj:h.get? x = some (PySem.W.instObj C dx)
 ns:h.Ns1 dx mA
 ne:dx≠x
theorem DL {h:Heap} {dx:Addr} {mA:Str->Option Value} (n:h.Ns1 dx mA):∃ od,h.get? dx = some od/\∀ name,PySem.W.lookIn name od = some (mA name):=by
 obtain ⟨o,es,ep,ho,hd,hk,_,hm⟩:=n
 refine ⟨o,ho,λname=>?_⟩
 have e:=hm name
 unfold nsFind findBy at e
 rw [←Array.find?_toList] at e
 unfold PySem.W.lookIn
 rw [hd]
 dsimp only
 split
 ·rename_i y q
  rw [q] at e
  exact congrArg some e
 ·rename_i q
  rw [q] at e
  have a:es.toList.any (·.refKey) = false:=by
   rw [List.any_eq_false]
   intro y hy
   obtain ⟨z,t,hkey⟩:=hk y (Array.mem_toList_iff.mp hy)
   simp [DictEntry.refKey,hkey]
  have a':¬es.toList.any (·.refKey) = true:=by rw [a]; exact Bool.false_ne_true
  rw [if_neg a']
  exact congrArg some e
theorem rF.look (I:rF h x dx C mA):∃ od,PySem.W.InstAt h x (PySem.W.instObj C dx) C (some od)/\∀ name,PySem.W.lookIn name od = some (mA name):=
 let ⟨od,ho,hl⟩:=DL I.ns
 ⟨od,⟨I.obj,rfl,rfl,ho⟩,hl⟩
section
variable {prog:Program} {w:World} {A:Around} {E:Value->Shared->Prop} {s:Shared} {K:W.Frag} {x dx C f:Addr} {mA:Str->Option Value} {name:Str} {v:Value}
theorem get_map (X:K.In s.heap) (I:rF s.heap x dx C mA) (hg:PySem.W.plainGet K C name = true) (hh:PySem.W.hasDictIn K C = true)
  (ha:PySem.W.findIn K (.ref C) name = some none) (hv:mA name = some v) (hv':PySem.W.handedIn v = true) (h:Q v { s with toks:=s.toks+1 }):
  wpAny (model prog w) A (getAttr (.ref x) name expr) Q E s:=by
 obtain ⟨od,J,hl⟩:=I.look
 exact PySem.W.get_value X J (PySem.W.plainGet_of hg).1 (PySem.W.findObj_own hh ha rfl (by rw [hl,hv])) hv' h
theorem Gd (X:K.In s.heap) (I:rF s.heap x dx C mA) (hg:PySem.W.plainGet K C name = true)
  (hf:PySem.W.findIn K (.ref C) name = some (some (.ref f))) (ht:PySem.W.isFn K (.ref f) = true) (hv:mA name = none) (h:Q (.ref f,[.ref x]) s):
  wpAny (model prog w) A (getMethod (.ref x) name pl) Q E s:=by
 obtain ⟨od,J,hl⟩:=I.look
 exact PySem.W.method_fn X J (PySem.W.plainGet_of hg).1 (PySem.W.plainGet_of hg).2 hf (beq_iff_eq.mp ht) (by show (PySem.W.lookIn name od).map (·.isSome) = some false; rw [hl,hv]; rfl) h
theorem Je (X:K.In s.heap) (I:rF s.heap x dx C mA)
  (hs:PySem.W.findIn K (.ref C) "__setattr__" = some (some (.builtin "object.__setattr__"))) (hp:PySem.W.plainOver K C = true) (ht:PySem.W.takerIn K C name = some none) (hh:PySem.W.hasDictIn K C = true)
  (hw:PySem.Within mA ns) (hsz:ns.length<=sizeLine)
  (h:∀ h',rF h' x dx C (λy=>if y = name then some v else mA y)->Heap.SameBut dx s.heap h'->Q () { s with heap:=h',toks:=s.toks+2 }):
  wpAny (model prog w) A (setAttr (.ref x) name v) Q E s:=by
 obtain ⟨od,J,hl⟩:=I.look
 refine PySem.W.set_plain X J hs (PySem.W.osa_open (s:={ s with toks:=s.toks+1 }) (r:=none) X J hp ht λb=>?_)
 obtain ⟨cd,hc,hd'⟩:=PySem.W.any_some hh
 have hx:s.heap.get? x = some ⟨.ref C,some dx,.plain,#[]⟩:=I.obj
 refine wpAny_bind (wpAny_pure (wpAny_bind (wpAny_bind (wpAny_loadPart hx (wpAny_bind (PySem.W.Looks.here (s:={ s with toks:=s.toks+1 }) (PySem.W.looks_clsIn X hc) ?_))))))
 rw [hd']
 refine wpAny_pure (a:=some dx) (wpAny_bind (wpAny_pure (wpAny_bind ?_)))
 refine wpAny_nsSet1 (s:={ s with toks:=s.toks+1 }) I.ns λh' hn2 hs2=>?_
 obtain ⟨oD,esD,epD,hoD,hdD,hcD⟩:=hn2.count (PySem.Within.cons name v hw)
 refine wpAny_bind (wpAny_lookBehind hoD (by rw [hdD]; exact pastItsLine_dict (Nat.le_trans hcD (by rw [List.length_cons]; omega))) ?_)
 exact wpAny_pure (h _ ⟨(hs2.2 _ (Ne.symm I.ne)).trans I.obj,hn2,I.ne⟩ hs2)
theorem GL (X:K.In s.heap) (hm:PySem.W.makesIn K C = true)
  (hi:PySem.W.findIn K (.ref C) "__init__" = some (some (.ref f))) (hf:PySem.W.typeIn K (.ref f) = some (.type "function"))
  (h:codeAny (model prog w) (A.under (.builtin "type.__call__" ⟨.ref C::vs,kw⟩)) (.call (.ref f) ⟨.ref (s.heap.objs.size+1)::vs,kw⟩) (PySem.W.InitBack (s.heap.objs.size+1) R)
   { s with heap:=(s.heap.push PySem.W.emptyDict).push (PySem.W.instObj C s.heap.objs.size) }):
  codeAny (model prog w) A (.call (.ref C) ⟨vs,kw⟩) R s:=by
 obtain ⟨hh,g,d,t,os⟩:=s
 exact PySem.W.make_core (PySem.W.makes_of X hm) (PySem.W.looks_findIn X hi) (λself=>PySem.W.bind_fn X self hf) (.inl rfl) h
end
def eZ (f:Str) (v:V):List (Str×V)->List (Str×V)
 | []=>[(f,v)]
 | (g,x)::r=>if g = f then (g,v)::r else (g,x)::eZ f v r
theorem qS (f g:Str) (v:V):∀ fs:List (Str×V),(eZ f v fs).lookup g = if g = f then some v else fs.lookup g
 | []=>by
   show List.lookup g [(f,v)] = _
   by_cases h:g = f
   ·have hb:(g == f) = true:=beq_iff_eq.mpr h
    simp only [List.lookup,hb,if_pos h]
   ·have hb:(g == f) = false:=beq_eq_false_iff_ne.mpr h
    simp only [List.lookup,hb,if_neg h]
 | (k,x)::r=>by
   have ih:=qS f g v r
   rw [show eZ f v ((k,x)::r) = (if k = f then (k,v)::r else (k,x)::eZ f v r) from rfl]
   by_cases hk:k = f
   ·rw [if_pos hk]
    by_cases h:g = k
    ·have hb:(g == k) = true:=beq_iff_eq.mpr h
     simp only [List.lookup,hb,if_pos (h.trans hk)]
    ·have hb:(g == k) = false:=beq_eq_false_iff_ne.mpr h
     simp only [List.lookup,hb,if_neg (λe:g = f=>h (e.trans hk.symm))]
   ·rw [if_neg hk]
    by_cases h:g = k
    ·have hb:(g == k) = true:=beq_iff_eq.mpr h
     simp only [List.lookup,hb,if_neg (λe:g = f=>hk (h.symm.trans e))]
    ·have hb:(g == k) = false:=beq_eq_false_iff_ne.mpr h
     simp only [List.lookup,hb]
     exact ih
theorem oZ (f:Str) (v:V):∀ fs:List (Str×V),f∈(eZ f v fs).map (·.1)/\∀ g,g∈fs.map (·.1)->g∈(eZ f v fs).map (·.1)
 | []=>⟨by simp [eZ],λg h=>by simp at h⟩
 | (k,x)::r=>by
   obtain ⟨i1,i2⟩:=oZ f v r
   rw [show eZ f v ((k,x)::r) = (if k = f then (k,v)::r else (k,x)::eZ f v r) from rfl]
   by_cases hk:k = f
   ·rw [if_pos hk]
    subst hk
    exact ⟨by simp,λg h=>by simpa using h⟩
   ·rw [if_neg hk]
    refine ⟨?_,λg h=>?_⟩
    ·rw [List.map_cons]
     exact List.mem_cons_of_mem _ i1
    ·rw [List.map_cons] at h ⊢
     rcases List.mem_cons.mp h with e | e
     ·exact List.mem_cons.mpr (.inl e)
     ·exact List.mem_cons_of_mem _ (i2 g e)
theorem qN (f:Str) (v:V):∀ fs:List (Str×V),(eZ f v fs).length<=fs.length+1
 | []=>by simp [eZ]
 | (k,x)::r=>by
   have ih:=qN f v r
   rw [show eZ f v ((k,x)::r) = (if k = f then (k,v)::r else (k,x)::eZ f v r) from rfl]
   by_cases hk:k = f
   ·rw [if_pos hk,List.length_cons,List.length_cons]; omega
   ·rw [if_neg hk,List.length_cons,List.length_cons]; omega
theorem iT.some_of (r:iT (some v) o):∃ u,o = some u/\RelV v u:=by
 cases o with
 | none=>exact (show False from r).elim
 | some u=>exact ⟨u,rfl,r⟩
theorem iT.none_of (r:iT none o):o = none:=by
 cases o with
 | none=>rfl
 | some u=>exact (show False from r).elim
theorem D3 (r:RelV v u):PySem.W.handedIn u = true:=by
 cases v with
 | non=>cases (show u = Value.none from r); rfl
 | bl b=>cases (show u = Value.bool b from r); rfl
 | int i=>obtain ⟨t,e⟩:=(show ∃ t,u = Value.int i t from r); cases e; rfl
 | str x=>obtain ⟨t,e⟩:=(show ∃ t,u = Value.str x t from r); cases e; rfl
 | byt b=>obtain ⟨t,e⟩:=(show ∃ t,u = Value.bytes b t from r); cases e; rfl
 | flt b=>obtain ⟨t,e⟩:=(show ∃ t,u = Value.float b t from r); cases e; rfl
 | ref a=>cases (show u = Value.ref a from r); rfl
 | ty n=>cases (show u = Value.type n from r); rfl
section
variable {P:Program} {w:World} {H H':Hp} {h h':Heap} {a C dx:Addr} {fs fs':List (Str×V)}
theorem uK (bt:eX P w H h) (e:H a = some (.ins C dx fs)):∃ mA,rF h a dx C mA/\(∀ f,iT (fs.lookup f) (mA f))/\PySem.Within mA (fs.map (·.1))/\fs.length<=1000/\H dx = some (.own a):=by
 obtain ⟨d,z,ne,ob,mA,n,r,q⟩:=(show dD P w H h a (.ins C dx fs) from bt a _ e)
 exact ⟨mA,⟨ob,n,ne⟩,r,q,z,d⟩
end
structure je (K:W.Frag) (C:Addr):Prop where
 pg:PySem.W.plainGet K C Str.empty = true
 hd:PySem.W.hasDictIn K C = true
 po:PySem.W.plainOver K C = true
 sa:PySem.W.findIn K (.ref C) "__setattr__" = some (some (.builtin "object.__setattr__"))
theorem je.get {K:W.Frag} {C:Addr} (c:je K C) (f:Str):PySem.W.plainGet K C f = true:=c.pg
def ib (K:W.Frag) (C:Addr) (f:Str):Prop:=PySem.W.findIn K (.ref C) f = some none
theorem ib.N1 {K:W.Frag} {C:Addr} {f:Str} (n:ib K C f):PySem.W.takerIn K C f = some none:=by
 unfold PySem.W.takerIn
 rw [show PySem.W.findIn K (.ref C) f = some none from n]
 rfl
structure Meth (K:W.Frag) (C:Addr) (m:Str) (f:Addr):Prop where
 at_:PySem.W.findIn K (.ref C) m = some (some (.ref f))
 fn:PySem.W.isFn K (.ref f) = true
 kp:PySem.W.keepIn K (.ref f) = true
section
variable {X:Cx} {pins:List (Addr×Obj)} {σ:St} {H:Hp} {s:Shared} {a C dx:Addr} {fs:List (Str×V)} {f:Str} {v:V} {A:Around} {E:Value->Shared->Prop}
theorem BS (I:Inv X pins σ H s) (e:H a = some (.ins C dx fs)) (c:je X.K C) (n:ib X.K C f) (l:fs.lookup f = some v)
  (h:∀ u s',Inv X pins σ H s'->RelV v u->Q u s'):wpAny (model X.prog X.w) A (getAttr (.ref a) f b) Q E s:=by
 obtain ⟨mA,O,r,_,_,_⟩:=uK I.bt e
 obtain ⟨u,hu,ru⟩:=iT.some_of (v:=v) (o:=mA f) (by rw [←l]; exact r f)
 exact get_map I.gZ O (c.get f) c.hd n hu (D3 ru) (h u _ (I.tok _) ru)
theorem n6 (I:Inv X pins σ H s) (e:H a = some (.ins C dx fs)) (c:je X.K C) (k:Meth X.K C m g) (l:fs.lookup m = none)
  (h:Q (.ref g,[.ref a]) s):wpAny (model X.prog X.w) A (getMethod (.ref a) m pl) Q E s:=by
 obtain ⟨mA,O,r,_,_,_⟩:=uK I.bt e
 have hn:mA m = none:=iT.none_of (by rw [←l]; exact r m)
 exact Gd I.gZ O (c.get m) k.at_ k.fn hn h
theorem Cq (I:Inv X pins σ H s) (e:H a = some (.ins C dx fs)) (c:je X.K C) (n:ib X.K C f) (hl:fs.length < 1000) (ry:RelV y u)
  (h:∀ s',Inv X pins σ (upd H a (.ins C dx (eZ f y fs))) s'->Q () s'):wpAny (model X.prog X.w) A (setAttr (.ref a) f u) Q E s:=by
 obtain ⟨mA,O,r,wi,_,ho⟩:=uK I.bt e
 have hz:(fs.map (·.1)).length<=sizeLine:=by rw [List.length_map,sizeLine_eq]; omega
 refine Je I.gZ O c.sa c.po n.N1 c.hd wi hz λh' O' sb=>h _ ?_
 have hd:∃ o,h'.get? dx = some o:=let ⟨o,_,_,e',_⟩:=O'.ns; ⟨o,e'⟩
 refine I.write (x:=a) (e:=dx) (by rw [e]; exact True.intro) (.inr ho) (λb q hb z=>(sb.2 b hb).trans z) hd ?_
 refine ⟨by rw [aZ O.ne]; exact ho,?_,O.ne,O'.obj,_,O'.ns,λg=>?_,λg hg=>?_⟩
 ·have:=qN f y fs; omega
 ·show iT ((eZ f y fs).lookup g) (if g = f then some u else mA g)
  rw [qS]
  by_cases q:g = f
  ·rw [if_pos q,if_pos q]; exact ry
  ·rw [if_neg q,if_neg q]; exact r g
 ·by_cases q:g = f
  ·rw [q]; exact (oZ f y fs).1
  ·refine (oZ f y fs).2 g (wi g λz=>hg ?_)
   show (if g = f then some u else mA g) = none
   rw [if_neg q]; exact z
theorem Inv.made (I:Inv X pins σ H s):Inv X pins σ (upd (upd H s.heap.objs.size (.own (s.heap.objs.size+1))) (s.heap.objs.size+1) (.ins C s.heap.objs.size []))
  { s with heap:=(s.heap.push PySem.W.emptyDict).push (PySem.W.instObj C s.heap.objs.size) }:=by
 have e1:(s.heap.push PySem.W.emptyDict).get? s.heap.objs.size = some PySem.W.emptyDict:=Heap.get?_push_size s.heap rfl
 have e2:((s.heap.push PySem.W.emptyDict).push (PySem.W.instObj C s.heap.objs.size)).get? (s.heap.objs.size+1) = some (PySem.W.instObj C s.heap.objs.size):=by
  have:=Heap.get?_push_size (s.heap.push PySem.W.emptyDict) (o:=PySem.W.instObj C s.heap.objs.size) rfl
  rwa [Heap.size_push] at this
 have e3:(s.heap.push PySem.W.emptyDict).Ns s.heap.objs.size (λ_=>none):=⟨PySem.W.emptyDict,#[],_,e1,rfl,(λe he=>absurd he (by simp)),λ_=>rfl⟩
 have I1:=I.laid (a:=s.heap.objs.size) (o:=.own (s.heap.objs.size+1)) (h':=s.heap.push PySem.W.emptyDict) (t':=s.toks) (λb u q=>Heap.get?_push_of_some _ q) (Nat.le_refl _) ⟨_,e1⟩
 refine I1.laid (a:=s.heap.objs.size+1) (o:=.ins C s.heap.objs.size []) (t':=s.toks) (λb u q=>Heap.get?_push_of_some _ q) (Nat.le_of_eq (Heap.size_push _ _)) ?_
 have ne:s.heap.objs.size≠s.heap.objs.size+1:=Nat.ne_of_lt (Nat.lt_succ_self _)
 refine ⟨by rw [aZ ne,bj],Nat.zero_le _,ne,e2,λ_=>none,(Heap.Ns1.of_empty e3).at λo q=>Heap.get?_push_of_some _ q,λ_=>True.intro,λy hy=>absurd rfl hy⟩
theorem ID (hb:attributeBase e f env (eval e env) = eval e env)
  (h:wpAny (model prog w) A (eval e env) (λo s₁=>wpAny (model prog w) A (getAttr o f true) Q E s₁) E s):wpAny (model prog w) A (eval (.Attribute e f pos) env) Q E s:=
 Attribute_any_ h (by rw [arm_eval_Attribute,hb])
end
def OZ (K:W.Frag) (ta:TE) (f:Str):TE:=λσ H Q=>ta σ H λx H1=>∃ a C dx fs v,x = .ref a/\H1 a = some (.ins C dx fs)/\je K C/\ib K C f/\fs.lookup f = some v/\Q v H1
def OT (K:W.Frag) (ta tv:TE) (f:Str):TS:=λD σ H=>tv σ H λy H1=>ta σ H1 λx H2=>∃ a C dx fs,x = .ref a/\H2 a = some (.ins C dx fs)/\je K C/\ib K C f/\fs.length < 1000/\
 D.nx σ (upd H2 a (.ins C dx (eZ f y fs)))
section
variable {X:Cx} {o e value:Expr} {f:Str} {pos pos' tpos:Pos} {ta tv:TE}
theorem MG (he:PE X e ta) (hb:attributeBase e f X.env (eval e X.env) = eval e X.env):PE X (.Attribute e f pos) (OZ X.K ta f):=by
 intro pins s σ H Q I h
 refine ID hb (aW (he pins s σ H _ I h) λu s1 ⟨x,H1,I1,rx,a,C,dx,fs,v,ex,ea,c,n,l,q⟩=>?_)
 subst ex
 obtain rfl:u = Value.ref a:=rx
 exact BS I1 ea c n l λu' s2 I2 ru=>⟨v,H1,I2,ru,q⟩
theorem Md (ha:PE X o ta) (hv:PE X value tv) (hs:swapsWith value (some (.Attribute o f pos')) pos.line X.env = pure false):PS X (.Assign [.Attribute o f pos'] value pos) (OT X.K ta tv f):=by
 intro pins s σ H D I h
 refine plainObj_wpAny_Assign_Attribute (aW (hv pins s σ H _ I h) λu s1 ⟨y,H1,I1,ry,q⟩=>aW (ha pins s1 σ H1 _ I1 q) λov s2 ⟨x,H2,I2,rx,a,C,dx,fs,ex,ea,c,n,l,q2⟩=>?_) hs
 subst ex
 obtain rfl:ov = Value.ref a:=rx
 exact Cq I2 ea c n l ry λs3 I3=>⟨σ,_,I3,q2⟩
theorem M7 (he:PE X e te) (I:Inv X pins σ H s)
  (h:te σ H λx H1=>∃ a C dx fs g,x = .ref a/\H1 a = some (.ins C dx fs)/\je X.K C/\Meth X.K C m g/\fs.lookup m = none/\
   ∀ s1,Inv X pins σ H1 s1->wpAny (model X.prog X.w) X.A (callWith pos (.ref g) [.ref a] (backTo pos (starEach args X.env)) (backToKw pos (keywordEach [] X.env))) Q X.xe s1)
  (ht:eval (.Call (.Attribute e m apos) args [] pos) X.env = (do
   let ov ←eval e X.env
   standAt apos.atName
   let (f,first) ←holding [ov] (getMethod ov m pl)
   callWith pos f first (backTo pos (starEach args X.env)) (backToKw pos (keywordEach [] X.env)))):
  wpAny (model X.prog X.w) X.A (eval (.Call (.Attribute e m apos) args [] pos) X.env) Q X.xe s:=by
 refine PySem.W.methodCall_KW (pl:=pl) (aW (he pins s σ H _ I h) λu s1 ⟨x,H1,I1,rx,a,C,dx,fs,g,ex,ea,c,k,l,q⟩=>?_) ht
 subst ex
 obtain rfl:u = Value.ref a:=rx
 exact n6 I1 ea c k l (q s1 I1)
end
section
variable {X:Cx} {pins:List (Addr×Obj)} {σ:St} {H:Hp} {s:Shared} {A:Around} {E:Value->Shared->Prop} {Q:Value->Shared->Prop} {c:Value} {b:Bool}
end
end L2
namespace L2
open PySem PySem.Spec PyProof.Rows
structure bI (k:Nat) (A:Around):Prop where
 hd:A.handled = none
 dp:A.depth+3 * k+5 < recursionLimit
 un:A.units+16 * k+200 < cLine
theorem bI.mono (r:bI k A) (h:j<=k):bI j A:=⟨r.hd,by have:=r.dp; omega,by have:=r.un; omega⟩
theorem bI.deeper (r:bI (k+1) A) (env:Env):bI k (A.deeper env):=
 ⟨r.hd,by have:=r.dp; show A.depth+1+3 * k+5 < _; omega,by have:=r.un; show A.units+3+16 * k+200 < _; omega⟩
theorem Cy {A:Around} {C:Addr} {us:List Value} {kw:List (Str×Value)}:(A.under (.builtin "type.__call__" ⟨.ref C::us,kw⟩)).depth = A.depth+1:=by
 first | rfl | simp [Around.under,Code.weight,Code.isCreation,Code.isGuard,Code.isCaller,Code.frames,Code.isFrame,guardIds]
theorem BO {A:Around} {C:Addr} {us:List Value} {kw:List (Str×Value)}:(A.under (.builtin "type.__call__" ⟨.ref C::us,kw⟩)).units = A.units+1:=by
 first | rfl | simp [Around.under,Code.cUnits,Code.frames,Code.isFrame]
theorem bI.make (r:bI (k+1) A) (C:Addr) (us:List Value) (kw:List (Str×Value)):bI k (A.under (.builtin "type.__call__" ⟨.ref C::us,kw⟩)):=
 ⟨r.hd,by have:=r.dp; rw [Cy]; omega,by have:=r.un; rw [BO]; omega⟩
theorem bI.depth (r:bI k A):A.depth < recursionLimit:=by have:=r.dp; omega
theorem bI.units (r:bI k A):A.units+64 < cLine:=by have:=r.un; omega
def yz:TA:=λ_ H Q=>Q [] H
def sx (ta:TE) (tr:TA):TA:=λσ H Q=>ta σ H λx H1=>tr σ H1 λxs H2=>Q (x::xs) H2
section
variable {X:Cx} {e:Expr} {es:List Expr} {te:TE} {t:TA} {pos:Pos}
theorem dm:PA X [] yz:=λ_ _ _ _ H Q I h=>Calls.spliced_nil ⟨[],H,I,.nil,h⟩
theorem Kg (ha:PE X e te) (hr:PA X es t) (hs:starEach (e::es) X.env = (false,eval e X.env)::starEach es X.env:=by rfl):PA X (e::es) (sx te t):=by
 intro pos pins s σ H Q I h
 rw [hs]
 show wpAny _ _ (spliced ((false,eval e X.env)::backTo pos (starEach es X.env))) _ _ s
 refine Calls.spliced_cons (aW (ha pins s σ H _ I h) λu s1 ⟨x,H1,I1,r1,q1⟩=>?_)
 exact aW (hr pos pins s1 σ H1 _ I1 q1) λus s2 ⟨xs,H2,I2,r2,q2⟩=>⟨x::xs,H2,I2,.cons r1 r2,q2⟩
def OP (t:TA):TE:=λσ H Q=>t σ H λxs H1=>xs.length<=sizeLine/\∀ p,H1 p = none->Q (.ref p) (upd H1 p (.tup xs))
def OG (t:TA):TE:=λσ H Q=>t σ H λxs H1=>xs.length<=sizeLine/\∀ p,H1 p = none->Q (.ref p) (upd H1 p (.lst xs))
theorem Dx (h:PA X es t):PE X (.Tuple es x1 pos) (OP t):=by
 intro pins s σ H Q I hq
 refine wpAny_Tuple_spliced (aW (h pos pins s σ H _ I hq) λus s1 ⟨xs,H1,I1,r,z,q⟩=>⟨by rw [←r.length]; exact z,?_⟩)
 have hf:H1 s1.heap.objs.size = none:=I1.bt.fresh (Nat.le_refl _)
 refine ⟨.ref s1.heap.objs.size,upd H1 s1.heap.objs.size (.tup xs),I1.laid (t':=s1.toks) (λb u e=>Heap.get?_push_of_some _ e) (Nat.le_refl _) ?_,rfl,q _ hf⟩
 exact ⟨z,us,r,⟨_,Heap.get?_push_size _ rfl,rfl,_,rfl⟩⟩
theorem Ew (h:PA X es t):PE X (.List es pos) (OG t):=by
 intro pins s σ H Q I hq
 refine wpAny_List_spliced (aW (h pos pins s σ H _ I hq) λus s1 ⟨xs,H1,I1,r,z,q⟩=>⟨by rw [←r.length]; exact z,?_⟩)
 have hf:H1 s1.heap.objs.size = none:=I1.bt.fresh (Nat.le_refl _)
 refine ⟨.ref s1.heap.objs.size,upd H1 s1.heap.objs.size (.lst xs),I1.laid (t':=s1.toks) (λb u e=>Heap.get?_push_of_some _ e) (Nat.le_refl _) ?_,rfl,q _ hf⟩
 exact ⟨z,us,0,r,Heap.get?_push_size _ rfl⟩
end
abbrev Sp:=List V->Hp->VK->XK->Prop
abbrev jd:=List Env->Hp->Shared->XK->Value->Shared->Prop
structure rP (P:Program) (w:World) (K:W.Frag) (mg:Str->Option Value) (base:Heap) (A:Around) (outer:List Env) (s:Shared) (H:Hp):Prop where
 frames:A.frames = some outer
 mod:Mod K mg base
 bs:∀ b o,base.get? b = some o->s.heap.get? b = some o/\H b = none
 vX:base.objs.size<=s.heap.objs.size
 lI:s.heap.FunFrames base outer
 Dc:∀ b∈d8 outer,H b = none
 bt:eX P w H s.heap
 bare:AllBare s.gens
def CE (outer:List Env) (P:Program) (w:World) (H:Hp) (s:Shared) (Q:VK) (u:Value) (s':Shared):Prop:=
 ∃ v H',s'.os = s.os/\AllBare s'.gens/\Un (d8 outer) [] H H' s.heap s'.heap/\eX P w H' s'.heap/\RelV v u/\Q v H'
def CR (CX:jd) (outer:List Env) (P:Program) (w:World) (H:Hp) (s:Shared) (Q:VK) (E:XK) (r:Result) (s':Shared):Prop:=
 match r with
 | .ok (.ret u)=>CE outer P w H s Q u s'
 | .ok _=>False
 | .error e=>CX outer H s E e s'
structure dG (P:Program) (w:World) (K:W.Frag) (mg:Str->Option Value) (base:Heap) (CX:jd) (k:Nat) (f:Addr) (fd:FuncData) (ps:List Str) (sp:Sp):Prop where
 len:∀ vs H Q E,sp vs H Q E->vs.length = ps.length
 run:∀ (A:Around) (outer:List Env) (s:Shared) (H:Hp) (args:Args) (us:List Value) (vs:List V) (Q:VK) (E:XK),bI k A->rP P w K mg base A outer s H->BindsTo s fd args (ps.zip us)->Vals vs us->sp vs H Q E->
  codeAny (model P w) A (.call (.ref f) args) (CR CX outer P w H s Q E) s
theorem dG.imp {P:Program} {w:World} {K:W.Frag} {mg:Str->Option Value} {base:Heap} {CX:jd} {k:Nat} {f:Addr} {fd:FuncData} {ps:List Str} {sp sp':Sp} (F:dG P w K mg base CX k f fd ps sp)
  (h:∀ vs H Q E,sp' vs H Q E->sp vs H Q E):dG P w K mg base CX k f fd ps sp':=
 ⟨λvs H Q E q=>F.len vs H Q E (h _ _ _ _ q),λA outer s H args us vs Q E hr he hb hv hs=>F.run A outer s H args us vs Q E hr he hb hv (h _ _ _ _ hs)⟩
theorem rP.make {P:Program} {w:World} {K:W.Frag} {mg:Str->Option Value} {base:Heap} {A:Around} {outer:List Env} {s:Shared} {H:Hp} (e:rP P w K mg base A outer s H) (C:Addr) (us:List Value) (kw:List (Str×Value)):
  rP P w K mg base (A.under (.builtin "type.__call__" ⟨.ref C::us,kw⟩)) outer s H:=⟨by first | exact e.frames | (simpa [Around.under,Code.envs,Code.isFrame,pushEnvs] using e.frames),e.mod,e.bs,e.vX,e.lI,e.Dc,e.bt,e.bare⟩
section
variable {X:Cx} {pins:List (Addr×Obj)} {σ:St} {H:Hp} {s s':Shared}
theorem Inv.M6 (I:Inv X pins σ H s):rP X.prog X.w X.K X.mg X.base X.A X.stack s H:=
 ⟨I.ok.frames,I.ok.mod,I.bs,Nat.le_trans I.ok.vX I.sz,I.stack,I.p7,I.bt,I.bare⟩
theorem Inv.after (I:Inv X pins σ H s) (h:CE X.stack X.prog X.w H s Q u s'):EP X pins σ Q u s':=by
 obtain ⟨v,H',os,bare,un,bt,r,q⟩:=h
 obtain ⟨hh,g,d,t,os'⟩:=s'
 obtain rfl:os' = s.os:=os
 exact ⟨v,H',I.call (h':=hh) (g':=g) (d':=d) (t':=t) (ch:=[]) un bt bare (λb z=>absurd z (by simp)),r,q⟩
end
def wF (sp:Sp) (dvs:List V) (E:XK) (t:TA):TE:=λσ H Q=>t σ H λvs H1=>sp (vs++dvs) H1 Q E
def CL (C:Addr) (m:Str) (sp:Sp) (dvs:List V) (E:XK) (ta:TE) (t:TA):TE:=λσ H Q=>ta σ H λx H1=>∃ a dx fs,x = .ref a/\H1 a = some (.ins C dx fs)/\fs.lookup m = none/\
 t σ H1 λvs H2=>sp (x::(vs++dvs)) H2 Q E
def CB (C:Addr) (sp:Sp) (dvs:List V) (E:XK) (t:TA):TE:=λσ H Q=>t σ H λvs H1=>∀ x dx,H1 x = none->H1 dx = none->dx≠x->
 sp (.ref x::(vs++dvs)) (upd (upd H1 dx (.own x)) x (.ins C dx [])) (λv H2=>v = .non/\Q (.ref x) H2) E
def Binds (K:W.Frag) (fd:FuncData) (ps:List Str) (ds:List Value):Prop:=
 ∀ (s:Shared) (us:List Value),K.In s.heap->(us++ds).length = ps.length->BindsTo s fd ⟨us,[]⟩ (ps.zip (us++ds))
theorem Binds.all {K:W.Frag} {fd:FuncData} {ps:List Str} (h:∀ us:List Value,us.length = ps.length->bindArgs fd ⟨us,[]⟩ = pure (ps.zip us)):Binds K fd ps []:=λs us _ hl=>by
 rw [List.append_nil] at hl ⊢
 exact .of_eq (h us hl)
def Passes (CX:jd) (X:Cx) (E:XK):Prop:=∀ (pins:List (Addr×Obj)) (σ:St) (H:Hp) (s:Shared) (e:Value) (s':Shared),Inv X pins σ H s->CX X.stack H s E e s'->X.xe e s'
section
variable {X:Cx} {CX:jd} {k:Nat} {f C:Addr} {fd:FuncData} {ps:List Str} {sp:Sp} {dvs:List V} {ds:List Value} {E:XK} {x m:Str} {p pos apos:Pos} {e o:Expr} {es:List Expr} {ta:TE} {t:TA}
theorem oY (F:dG X.prog X.w X.K X.mg X.base CX k f fd ps sp) (hr:bI k X.A) (hb:Binds X.K fd ps ds) (hd:Vals dvs ds) (hx:Passes CX X E)
  (I:Inv X pins σ H s) (r:Vals vs us) (h:sp (vs++dvs) H Q E):wpAny (model X.prog X.w) X.A (call (.ref f) us) (EP X pins σ Q) X.xe s:=by
 have r2:Vals (vs++dvs) (us++ds):=r.append hd
 have hl:(us++ds).length = ps.length:=by rw [←r2.length]; exact F.len _ _ _ _ h
 refine wpAny_call (codeAny_mono (F.run X.A X.stack s H ⟨us,[]⟩ (us++ds) (vs++dvs) Q E hr I.M6 (hb s us I.gZ hl) r2 h) λr s' hq=>?_)
 cases r with
 | error e=>exact hx pins σ H s e s' I hq
 | ok fl=>
   cases fl with
   | ret u=>exact I.after hq
   | next=>exact False.elim hq
   | brk=>exact False.elim hq
   | cont=>exact False.elim hq
theorem Aw (F:dG X.prog X.w X.K X.mg X.base CX k f fd ps sp) (hr:bI k X.A) (hg:Gl X x) (hm:X.mg x = some (.ref f)) (hk:PySem.W.keepIn X.K (.ref f) = true) (hb:Binds X.K fd ps ds) (hd:Vals dvs ds) (hx:Passes CX X E)
  (ha:PA X (e::es) t) (hdb:(x == ("__debug__":Str)) = false:=by decide) (he:starEach (e::es) X.env = (false,eval e X.env)::starEach es X.env:=by rfl) (hpl:(backTo pos (starEach es X.env)).any (·.1) = false:=by rfl):
  PE X (.Call (.Name x p) (e::es) [] pos) (wF sp dvs E t):=by
 intro pins s σ H Q I h
 refine wpAny_Call_Name_kw (iD I hg hm ?_ hdb)
 refine PySem.W.callWith_K (h₀:=X.base) I.ok.mod.vp hk (aW (ha pos pins s σ H _ I h) λus s1 ⟨vs,H1,I1,r,q⟩=>⟨I1.gZ,?_⟩) he hpl
 exact oY F hr hb hd hx I1 r q
theorem A4 (he:PE X o ta) (c:je X.K C) (hm:Meth X.K C m f) (F:dG X.prog X.w X.K X.mg X.base CX k f fd ps sp) (hr:bI k X.A) (hb:Binds X.K fd ps ds) (hd:Vals dvs ds) (hx:Passes CX X E) (ha:PA X (e::es) t)
  (hst:starEach (e::es) X.env = (false,eval e X.env)::starEach es X.env:=by rfl) (hpl:(backTo pos (starEach es X.env)).any (·.1) = false:=by rfl)
  (ht:eval (.Call (.Attribute o m apos) (e::es) [] pos) X.env = (do
   let ov ←eval o X.env
   standAt apos.atName
   let (f,first) ←holding [ov] (getMethod ov m pl)
   callWith pos f first (backTo pos (starEach (e::es) X.env)) (backToKw pos (keywordEach [] X.env))):=by rfl):
  PE X (.Call (.Attribute o m apos) (e::es) [] pos) (CL C m sp dvs E ta t):=by
 intro pins s σ H Q I h
 refine PySem.W.methodCall_KW (pl:=pl) (aW (he pins s σ H _ I h) λu s1 ⟨x,H1,I1,rx,a,dx,fs,ex,ea,l,q⟩=>?_) ht
 subst ex
 obtain rfl:u = Value.ref a:=rx
 refine n6 I1 ea c hm l ?_
 refine PySem.W.callWith_K (first:=[.ref a]) (h₀:=X.base) I.ok.mod.vp hm.kp (aW (ha pos pins s1 σ H1 _ I1 q) λus s2 ⟨vs,H2,I2,r,q2⟩=>⟨I2.gZ,?_⟩) hst hpl
 exact oY (us:=.ref a::us) (vs:=.ref a::vs) F hr hb hd hx I2 (.cons rfl r) q2
theorem F8 (he:PE X o ta) (c:je X.K C) (hm:Meth X.K C m f) (F:dG X.prog X.w X.K X.mg X.base CX k f fd ps sp) (hr:bI k X.A) (hb:Binds X.K fd ps ds) (hd:Vals dvs ds) (hx:Passes CX X E)
  (ht:eval (.Call (.Attribute o m apos) [] [] pos) X.env = (do
   let ov ←eval o X.env
   standAt apos.atName
   let (f,first) ←holding [ov] (getMethod ov m pl)
   callWith pos f first (backTo pos (starEach [] X.env)) (backToKw pos (keywordEach [] X.env))):=by rfl):
  PE X (.Call (.Attribute o m apos) [] [] pos) (CL C m sp dvs E ta yz):=by
 intro pins s σ H Q I h
 refine PySem.W.methodCall_KW (pl:=pl) (aW (he pins s σ H _ I h) λu s1 ⟨x,H1,I1,rx,a,dx,fs,ex,ea,l,q⟩=>?_) ht
 subst ex
 obtain rfl:u = Value.ref a:=rx
 refine n6 I1 ea c hm l ?_
 exact PySem.W.callWith_K0 (first:=[.ref a]) I1.gZ hm.kp (oY (us:=[.ref a]) (vs:=[.ref a]) F hr hb hd hx I1 (.cons rfl .nil) q)
structure Mk (K:W.Frag) (C f:Addr):Prop where
 makes:PySem.W.makesIn K C = true
 init:PySem.W.findIn K (.ref C) "__init__" = some (some (.ref f))
 fn:PySem.W.isFn K (.ref f) = true
 kp:PySem.W.keepIn K (.ref C) = true
theorem yt (M:Mk X.K C f) (F:dG X.prog X.w X.K X.mg X.base CX k f fd ps sp) (hr:bI (k+1) X.A) (hb:Binds X.K fd ps ds) (hd:Vals dvs ds)
  (hx:Passes CX X E) (I:Inv X pins σ H s) (r:Vals vs us)
  (h:∀ x dx,H x = none->H dx = none->dx≠x->sp (.ref x::(vs++dvs)) (upd (upd H dx (.own x)) x (.ins C dx [])) (λv H2=>v = .non/\Q (.ref x) H2) E):
  wpAny (model X.prog X.w) X.A (call (.ref C) us) (EP X pins σ Q) X.xe s:=by
 have hq:=h (s.heap.objs.size+1) s.heap.objs.size (I.bt.fresh (Nat.le_succ _)) (I.bt.fresh (Nat.le_refl _)) (Nat.ne_of_lt (Nat.lt_succ_self _))
 have I2:=Inv.made (C:=C) I
 have r2:Vals (V.ref (s.heap.objs.size+1)::(vs++dvs)) (Value.ref (s.heap.objs.size+1)::(us++ds)):=.cons rfl (r.append hd)
 have hl:(Value.ref (s.heap.objs.size+1)::us++ds).length = ps.length:=by
  have e:=r2.length
  rw [F.len _ _ _ _ hq] at e
  exact e.symm
 refine wpAny_call (GL (f:=f) I.gZ M.makes M.init (beq_iff_eq.mp M.fn) (codeAny_mono (F.run _ X.stack _ _ ⟨Value.ref (s.heap.objs.size+1)::us,[]⟩ (Value.ref (s.heap.objs.size+1)::(us++ds)) _ _ E (hr.make C us [])
  (I2.M6.make C us []) (hb _ (Value.ref (s.heap.objs.size+1)::us) I2.gZ hl) r2 hq) λr s' hq'=>?_))
 cases r with
 | error e=>exact hx pins σ _ _ e s' I2 hq'
 | ok fl=>
   cases fl with
   | ret u=>
     obtain ⟨v,H',I3,rv,ev,q3⟩:=I2.after hq'
     subst ev
     exact ⟨rv,⟨V.ref (s.heap.objs.size+1),H',I3,rfl,q3⟩⟩
   | next=>exact False.elim hq'
   | brk=>exact False.elim hq'
   | cont=>exact False.elim hq'
theorem Io (M:Mk X.K C f) (F:dG X.prog X.w X.K X.mg X.base CX k f fd ps sp) (hr:bI (k+1) X.A) (hg:Gl X x) (hm:X.mg x = some (.ref C)) (hb:Binds X.K fd ps ds) (hd:Vals dvs ds) (hx:Passes CX X E)
  (ha:PA X (e::es) t) (hdb:(x == ("__debug__":Str)) = false:=by decide) (he:starEach (e::es) X.env = (false,eval e X.env)::starEach es X.env:=by rfl) (hpl:(backTo pos (starEach es X.env)).any (·.1) = false:=by rfl):
  PE X (.Call (.Name x p) (e::es) [] pos) (CB C sp dvs E t):=by
 intro pins s σ H Q I h
 refine wpAny_Call_Name_kw (iD I hg hm ?_ hdb)
 refine PySem.W.callWith_K (h₀:=X.base) I.ok.mod.vp M.kp (aW (ha pos pins s σ H _ I h) λus s1 ⟨vs,H1,I1,r,q⟩=>⟨I1.gZ,?_⟩) he hpl
 exact yt M F hr hb hd hx I1 r q
theorem GZ (M:Mk X.K C f) (F:dG X.prog X.w X.K X.mg X.base CX k f fd ps sp) (hr:bI (k+1) X.A) (hg:Gl X x) (hm:X.mg x = some (.ref C)) (hb:Binds X.K fd ps ds) (hd:Vals dvs ds) (hx:Passes CX X E)
  (hdb:(x == ("__debug__":Str)) = false:=by decide):PE X (.Call (.Name x p) [] [] pos) (CB C sp dvs E yz):=by
 intro pins s σ H Q I h
 refine wpAny_Call_Name_kw (iD I hg hm ?_ hdb)
 exact PySem.W.callWith_K0 I.gZ M.kp (yt (us:=[]) M F hr hb hd hx I .nil h)
end
section
variable {X:Cx} {CX:jd} {k:Nat} {f C:Addr} {fd:FuncData} {ps ks:List Str} {sp:Sp} {E:XK} {x m:Str} {p pos apos kpos:Pos} {e o:Expr} {es:List Expr} {kws:List Keyword} {te ta:TE} {t tk:TA} {nm:Option Str}
variable {g:List Value->List Value->List Value} {gV:List V->List V->List V}
end
structure aD (N P:List Str) (sc:Scope):Prop where
 kind:sc.kind = .function
 co:sc.isCoroutine = false
 gen:sc.isGenerator = false
 nd:N.Nodup
 pre:N.take P.length = P
 par:∀ x∈P,sc.names.lookup x = some .local\/sc.names.lookup x = some .cell
 KN:∀ y∈sc.names,y.2≠.free
theorem vR {kindOf:Str->Option NameKind} {x:Str}:∀ {binds:List (Str×Value)} {m:Str->Option Value},(∀ v,(x,v)∉binds)->bindL kindOf binds m x = m x
 | [],_,_=>rfl
 | (n,v)::r,m,h=>by
   unfold bindL
   rw [vR λw hw=>h w (List.mem_cons_of_mem _ hw)]
   split
   ·have:x≠n:=by rintro rfl; exact h v List.mem_cons_self
    simp [this]
   ·rfl
theorem vt {kindOf:Str->Option NameKind} {x:Str}:∀ {binds:List (Str×Value)} {m:Str->Option Value},(∀ v,(x,v)∉binds)->bindC kindOf binds m x = m x
 | [],_,_=>rfl
 | (n,v)::r,m,h=>by
   unfold bindC
   rw [vt λw hw=>h w (List.mem_cons_of_mem _ hw)]
   split
   ·rfl
   ·have:x≠n:=by rintro rfl; exact h v List.mem_cons_self
    simp [this]
theorem vP {kindOf:Str->Option NameKind} {x:Str} {v:Value}:∀ {P:List Str} {vs:List Value} {i:Nat} {m:Str->Option Value},P.Nodup->P[i]? = some x->vs[i]? = some v->kindOf x = some .local->
  bindL kindOf (P.zip vs) m x = some v
 | [],_,_,_,_,h,_,_=>by simp at h
 | _::_,[],_,_,_,_,h,_=>by simp at h
 | p::P,w::vs,0,m,nd,h1,h2,hk=>by
   simp at h1 h2; subst h1; subst h2
   show bindL kindOf ((p,w)::P.zip vs) m p = _
   unfold bindL
   rw [vR λv hv=>(List.nodup_cons.mp nd).1 (List.of_mem_zip hv).1,if_pos hk]
   simp
 | p::P,w::vs,i+1,m,nd,h1,h2,hk=>by
   show bindL kindOf ((p,w)::P.zip vs) m x = _
   unfold bindL
   exact vP (i:=i) (List.nodup_cons.mp nd).2 (by simpa using h1) (by simpa using h2) hk
theorem vW {kindOf:Str->Option NameKind} {x:Str} {v:Value}:∀ {P:List Str} {vs:List Value} {i:Nat} {m:Str->Option Value},P.Nodup->P[i]? = some x->vs[i]? = some v->kindOf x≠some .local->
  bindC kindOf (P.zip vs) m x = some v
 | [],_,_,_,_,h,_,_=>by simp at h
 | _::_,[],_,_,_,_,h,_=>by simp at h
 | p::P,w::vs,0,m,nd,h1,h2,hk=>by
   simp at h1 h2; subst h1; subst h2
   show bindC kindOf ((p,w)::P.zip vs) m p = _
   unfold bindC
   rw [vt λv hv=>(List.nodup_cons.mp nd).1 (List.of_mem_zip hv).1,if_neg hk]
   simp
 | p::P,w::vs,i+1,m,nd,h1,h2,hk=>by
   show bindC kindOf ((p,w)::P.zip vs) m x = _
   unfold bindC
   exact vW (i:=i) (List.nodup_cons.mp nd).2 (by simpa using h1) (by simpa using h2) hk
def start (N:List Str) (vs:List V):St:=vs.map some++List.replicate (N.length - vs.length) none
def fT (CX:jd) (P:Program) (w:World) (K:W.Frag) (mg:Str->Option Value) (base:Heap) (N:List Str) (qual:Str) (scope:Scope) (f:Addr) (cd:Value) (A:Around) (outer:List Env) (s:Shared) (H:Hp) (E:XK):Cx where
 prog:=P
 w:=w
 K:=K
 mg:=mg
 base:=base
 A:=A.deeper (envOfC qual scope s.heap.objs.size f cd)
 N:=N
 s₀:=s
 H₀:=H
 env:=envOfC qual scope s.heap.objs.size f cd
 outer:=outer
 stack:=envOfC qual scope s.heap.objs.size f cd::outer
 ex:=[]
 calm:=true
 fn:=λ_=>true
 pn:=[]
 xe:=λe s'=>wpAny (model P w) (A.deeper (envOfC qual scope s.heap.objs.size f cd)) (leaving (envOfC qual scope s.heap.objs.size f cd) e) (λ_ s''=>CX outer H s E e s'') (λe' s''=>CX outer H s E e' s'') s'
theorem xx {sc:Scope} {n:Nat} {x:Str} (h:sc.names.lookup x = some .cell):∃ c,(cellsFrom n sc.names []).lookup x = some c:=by
 have q:=PySem.W.cellsFrom_some sc.names n [] (.inl h)
 exact Option.isSome_iff_exists.mp q
theorem EI {CX:jd} {P:Program} {w:World} {K:W.Frag} {mg:Str->Option Value} {base:Heap} {N ps:List Str} {qual:Str} {scope:Scope} {f:Addr} {cd:Value} {A:Around} {outer:List Env} {s s1:Shared} {H:Hp} {E:XK} {us:List Value} {vs:List V}
  (S:aD N ps scope) (hd:A.handled = none) (e0:rP P w K mg base A outer s H) (hl:vs.length = ps.length) (r:Vals vs us)
  (x:InCallC s s.heap.objs.size (bindL (envOfC qual scope s.heap.objs.size f cd).kindOf (ps.zip us) λ_=>none) (cellsFrom (s.heap.objs.size+1) scope.names []) (bindC (envOfC qual scope s.heap.objs.size f cd).kindOf (ps.zip us) λ_=>none) s1):
  Inv (fT CX P w K mg base N qual scope f cd A outer s H E) [] (start N vs) H s1:=by
 have hpl:ps.length<=N.length:=by have:=congrArg List.length S.pre; rw [List.length_take] at this; omega
 obtain ⟨h1,tk,rfl,hk⟩:=x.done
 have noA:∀ b:Addr,b∉(fT CX P w K mg base N qual scope f cd A outer s H E).ex:=λb z=>absurd (show b∈([]:List Addr) from z) (by simp)
 refine ⟨⟨e0.mod,S.kind,rfl,rfl,Nat.le_refl _,λy z c h1 h2=>?_,λy hy=>?_,λy c _ h=>?_,λ_=>hd,Around.frames_deeper e0.frames,.inr ⟨rfl,rfl⟩,λb z=>absurd z (noA b),e0.bs,e0.vX,λb _ _=>noA b,λb z=>absurd z (noA b),e0.lI,e0.Dc⟩,
  rfl,e0.bare,Un.kept hk,⟨_,x.toInCall.ns,λi y v h1 h2 h3=>?_⟩,λy c h=>⟨_,x.cell y c h⟩,e0.bt.fresh (Nat.le_refl _),λy c h=>?_,λp hp=>absurd (show p∈([]:List (Addr×Obj)) from hp) (by simp),e0.bt.kept hk,?_,λ_ e=>nomatch e⟩
 ·exact name_of_addr x.apart (PySem.mem_of_lookup h1) (PySem.mem_of_lookup h2)
 ·have hy:scope.names.lookup y = some .cell\/scope.names.lookup y = some .free:=hy
  rcases hy with hy | hy
  ·exact xx hy
  ·exact absurd rfl (S.KN _ (PySem.mem_of_lookup hy))
 ·exact Nat.le_of_lt (x.above y c (PySem.mem_of_lookup h))
 ·have hi:i < vs.length:=by
   unfold start at h2
   by_cases hi:i < vs.length
   ·exact hi
   ·rw [List.getElem?_append_right (by simpa using hi)] at h2
    rw [List.getElem?_replicate] at h2
    split at h2 <;> cases h2
  have ha:vs[i]? = some v:=by
   unfold start at h2
   rw [List.getElem?_append_left (by simpa using hi),List.getElem?_map] at h2
   cases e:vs[i]? with
   | none=>rw [e] at h2; cases h2
   | some a=>rw [e] at h2; cases h2; rfl
  obtain ⟨u,hu,rv⟩:=r.get ha
  have hp:ps[i]? = some y:=by
   rw [←S.pre,List.getElem?_take_of_lt (by omega)]; exact h1
  have ndP:ps.Nodup:=by rw [←S.pre]; exact S.nd.sublist (List.take_sublist _ _)
  refine ⟨u,rv,?_⟩
  rcases S.par y (List.mem_of_getElem? hp) with k | k
  ·exact .inl ⟨k,vP ndP hp hu k⟩
  ·obtain ⟨c,e⟩:=xx (n:=s.heap.objs.size+1) k
   refine .inr ⟨.inl k,c,e,?_⟩
   have q:=x.cell y c e
   rw [vW ndP hp hu (by show scope.names.lookup y≠_; rw [k]; decide)] at q
   exact q
 ·exact e0.bt.fresh (Nat.le_of_lt (x.above y c (PySem.mem_of_lookup h)))
 ·unfold start
  show _ = N.length
  rw [List.length_append,List.length_map,List.length_replicate]
  omega
theorem NJ {CX:jd} {P:Program} {w:World} {K:W.Frag} {mg:Str->Option Value} {base:Heap} {k:Nat} {f:Addr} {name qual:Str} {params:Arguments} {body:List Stmt} {scope:Scope} {dV kV doc pm cdv ct oc:Value} {an od:Option Addr}
  {osl:Array (Option Value)} {N ps:List Str} {sp:Sp} (lk:K.lookup f = some ⟨oc,od,.func (PySem.W.fnOf name qual params body scope dV kV doc pm an cdv ct),osl⟩) (hcd:PySem.W.codeIn K cdv qual = true) (S:aD N ps scope)
  (len:∀ vs H Q E,sp vs H Q E->vs.length = ps.length)
  (hbody:∀ (A:Around) (outer:List Env) (s:Shared) (H:Hp) (vs:List V) (Q:VK) (E:XK),bI k (A.deeper (envOfC qual scope s.heap.objs.size f cdv))->sp vs H Q E->
   ∃ t,ia (fT CX P w K mg base N qual scope f cdv A outer s H E) body t/\t { nx:=λ_ H'=>Q .non H',rt:=Q } (start N vs) H):
  dG P w K mg base CX (k+1) f (PySem.W.fnOf name qual params body scope dV kV doc pm an cdv ct) ps sp:=by
 refine ⟨len,λA outer s H args us vs Q E hr e0 hb r hsp=>?_⟩
 have hl:=len _ _ _ _ hsp
 have KX:K.In s.heap:=e0.mod.vp.keeps λb o e=>(e0.bs b o e).1
 have lim:s.heap.NoLimit:=e0.mod.nolimit.keeps λb o e=>(e0.bs b o e).1
 have hkind:∀ y∈ps.zip us,scope.names.lookup y.1 = some .local\/(scope.names.lookup y.1 = some .cell/\((cellsFrom (s.heap.objs.size+1) scope.names []).lookup y.1).isSome = true):=λ⟨n,v⟩ hy=>by
  rcases S.par n (List.of_mem_zip hy).1 with q | q
  ·exact .inl q
  ·exact .inr ⟨q,PySem.W.cellsFrom_some _ _ _ (.inl q)⟩
 refine codeAny_call_function hr.depth (KX _ _ lk) rfl S.co S.gen rfl (PySem.W.codeRec_of KX hcd) (hb _ _ _ _ ?_)
 refine wpAny_newFunctionEnv_cells S.kind hkind λenv he s1 x=>?_
 subst he
 refine ⟨lim.keeps x.toInCall.keep,codeAny_func ?_⟩
 obtain ⟨t,ht,hq⟩:=hbody A outer s H vs Q E (hr.deeper _) hsp
 have I:Inv (fT CX P w K mg base N qual scope f cdv A outer s H E) [] (start N vs) H s1:=EI S hr.hd e0 hl r x
 refine wpAny_mono (ht [] s1 (start N vs) H _ I hq) (λfl s' hs=>?_) λe s' hs=>hs
 have fin:∀ {σ':St} {H':Hp} {v:V} {u:Value},Inv (fT CX P w K mg base N qual scope f cdv A outer s H E) [] σ' H' s'->RelV v u->Q v H'->CE outer P w H s Q u s':=
  λ{σ' H' v u} J rv q=>⟨v,H',J.os,J.bare,J.base,J.bt,rv,q⟩
 cases fl with
 | ret u=>
   obtain ⟨v,σ',H',J,rv,q⟩:=hs
   exact fin J rv q
 | next=>
   obtain ⟨σ',H',J,q⟩:=hs
   exact fin (v:=V.non) (u:=Value.none) J rfl q
 | brk=>
   obtain ⟨_,_,_,q⟩:=hs
   exact False.elim q
 | cont=>
   obtain ⟨_,_,_,q⟩:=hs
   exact False.elim q
end L2
namespace L2
open PySem PySem.Spec PyProof.Rows
section
variable {X:Cx} {x:Str} {p pos:Pos} {e:Expr} {es:List Expr} {t:TA} {id T:String} {r:List V->Hp->VK->Prop}
def Ht (r:List V->Hp->VK->Prop) (t:TA):TE:=λσ H Q=>t σ H λvs H1=>r vs H1 Q
theorem gJ (hc:cq X (.builtin id) r) (hg:Gl X x) (hm:X.mg x = none) (hv:bootBuiltins x = some (.builtin id)) (ha:PA X (e::es) t) (hn:x≠"__name__":=by decide) (hdb:(x == ("__debug__":Str)) = false:=by decide)
  (he:starEach (e::es) X.env = (false,eval e X.env)::starEach es X.env:=by rfl) (hpl:(backTo pos (starEach es X.env)).any (·.1) = false:=by rfl):PE X (.Call (.Name x p) (e::es) [] pos) (Ht r t):=by
 intro pins s σ H Q I h
 refine wpAny_Call_Name_kw (kR I hg hm hv ?_ hn hdb)
 exact PyProof.Rows.callWith_builtin1 (aW (ha pos pins s σ H _ I h) λus s1 ⟨vs,H1,I1,r1,q1⟩=>hc pins s1 σ H1 vs us Q I1 r1 q1) he hpl
theorem pC (hc:cq X (.type T) r) (hg:Gl X x) (hm:X.mg x = none) (hv:bootBuiltins x = some (.type T)) (ha:PA X (e::es) t) (hn:x≠"__name__":=by decide) (hdb:(x == ("__debug__":Str)) = false:=by decide)
  (he:starEach (e::es) X.env = (false,eval e X.env)::starEach es X.env:=by rfl) (hpl:(backTo pos (starEach es X.env)).any (·.1) = false:=by rfl):PE X (.Call (.Name x p) (e::es) [] pos) (Ht r t):=by
 intro pins s σ H Q I h
 refine wpAny_Call_Name_kw (kR I hg hm hv ?_ hn hdb)
 exact PyProof.Rows.callWith_type1 (aW (ha pos pins s σ H _ I h) λus s1 ⟨vs,H1,I1,r1,q1⟩=>hc pins s1 σ H1 vs us Q I1 r1 q1) he hpl
end
end L2
namespace HT
open PySem PyProof.Rows
section
open PySem.SeqAt
open PySem.AutoSeq1 (wpAny_loadPart')
open PySem.MeetsSeq PySem.MeetsSeq2 PySem.MeetsSeq3
end
section
variable {prog:Program} {w:World} {A:Around} {E:Value->Shared->Prop} {s:Shared}
theorem JC (ht:IsTup s.heap t vs.toArray) (hb:IsTup s.heap b ws.toArray) (hv:vs≠[])
  (h1:ws = []->Q (.ref t) s) (h2:ws≠[]->Q (.ref s.heap.objs.size) { s with heap:=s.heap.push { cls:=.type "tuple",data:=.seq (vs++ws).toArray } })
  (hsz:vs.length+ws.length<=sizeLine):wpAny (model prog w) A (binaryOp .Add (.ref t) (.ref b)) Q E s:=by
 obtain ⟨⟨cls,dd,data,sl⟩,ho,hc,n,hd⟩:=id ht
 obtain ⟨⟨cls2,dd2,data2,sl2⟩,ho2,hc2,n2,hd2⟩:=id hb
 simp only at hc hd hc2 hd2
 subst hc hd hc2 hd2
 have e:vs.toArray++ws.toArray = (vs++ws).toArray:=by simp
 by_cases hw:ws = []
 ·exact concat_meets ⟨_,ho,rfl⟩ ⟨_,ho2,rfl⟩ noFill_tuple_add seq_tuple_add PySem.F.slot_tuple_add PySem.F.entry_tuple_add (PySem.F.args_tuple_add_2 _ _)
   (tuple_addW1 t b vs.toArray ws.toArray n n2 dd dd2 sl sl2 (by simpa using hv) (by simp [hw])) ⟨ho,ho2,h1 hw⟩
 ·refine concat_meets ⟨_,ho,rfl⟩ ⟨_,ho2,rfl⟩ noFill_tuple_add seq_tuple_add PySem.F.slot_tuple_add PySem.F.entry_tuple_add (PySem.F.args_tuple_add_2 _ _)
   (tuple_addW2 t b vs.toArray ws.toArray n n2 dd dd2 sl sl2 (by simpa using hv) (by simpa using hw) (by rw [List.size_toArray,List.size_toArray]; exact hsz)) ⟨ho,ho2,?_⟩
  rw [e]
  exact h2 hw
def bD (n d:Nat):Option Int->Nat
 | none=>d
 | some v=>if v < 0 then (v+ (n:Int)).toNat else min v.toNat n
theorem Dz (n d:Nat) (hd:d<=n) (o:Option Int):bD n d o<=n:=by
 cases o with
 | none=>exact hd
 | some v=>
   show (if v < 0 then (v+ (n:Int)).toNat else min v.toNat n)<=n
   by_cases hv:v < 0
   ·rw [if_pos hv]; omega
   ·rw [if_neg hv]; exact Nat.min_le_right _ _
theorem Af (v:Int) (n d:Nat):(if v < 0 then max (v+ (n:Int)) 0 else min v (n:Int)) = ((bD n d (some v):Nat):Int):=by
 show (if v < 0 then max (v+ (n:Int)) 0 else min v (n:Int)) = (((if v < 0 then (v+ (n:Int)).toNat else min v.toNat n):Nat):Int)
 by_cases hv:v < 0
 ·simp only [if_pos hv]; omega
 ·simp only [if_neg hv]; omega
theorem Cg (lo hi:Option Int) (n:Nat):Builtin.Slice.sliceAdjust lo hi 1 (n:Int) = (((bD n 0 lo:Nat):Int),((bD n n hi:Nat):Int)):=by
 have h1:¬((1:Int) < 0):=by omega
 unfold Builtin.Slice.sliceAdjust
 simp only [h1,if_false]
 refine Prod.ext ?_ ?_
 ·cases lo with
  | none=>rfl
  | some v=>exact Af v n 0
 ·cases hi with
  | none=>rfl
  | some v=>exact Af v n n
theorem BI (i j:Nat):Builtin.Slice.slicePlaces (i:Int) (j:Int) 1 = j - i:=by
 unfold Builtin.Slice.slicePlaces
 have h1:(1:Int) > 0:=by omega
 simp only [h1,if_true,Int.ediv_one]
 split <;> omega
theorem sR {v:Value} {o:Option Int} {Q:Option Int->Shared->Prop} (p:IsPart v o) (h:Q o s):wpAny (model prog w) A (Builtin.Slice.slicePartIndex v) Q E s:=by
 cases p with
 | none=>exact slicePart_none h
 | int i t=>exact slicePart_int h
theorem rQ {sl:Addr} {vl vu:Value} {lo hi:Option Int} {n:Nat} {Q:Int×Int×Nat->Shared->Prop} (hs:s.heap.IsSliceOf sl vl vu .none) (pl:IsPart vl lo) (pu:IsPart vu hi)
  (h:Q (((bD n 0 lo:Nat):Int),1,bD n n hi - bD n 0 lo) s):wpAny (model prog w) A (Builtin.Slice.sliceApplied (.ref sl) (pure (n:Int))) Q E s:=by
 obtain ⟨os,hos,hcs,hds⟩:=id hs
 unfold Builtin.Slice.sliceApplied Builtin.Slice.sliceFields
 refine wpAny_bind (wpAny_bind (wpAny_field hos hds (x:=vl) rfl (wpAny_bind (wpAny_field hos hds (x:=vu) rfl (wpAny_bind (wpAny_field hos hds (x:=.none) rfl (wpAny_pure ?_)))))))
 refine wpAny_bind (slicePart_none ?_)
 show wpAny _ _ (if ((1:Int) == 0) = true then _ else _) _ _ s
 rw [if_neg (by decide)]
 refine wpAny_bind (sR pl (wpAny_bind (sR pu (wpAny_bind (wpAny_pure ?_)))))
 show wpAny _ _ (match Builtin.Slice.sliceAdjust lo hi 1 (n:Int) with | (lo,hi)=>pure (lo,(1:Int),Builtin.Slice.slicePlaces lo hi 1)) _ _ s
 rw [Cg lo hi n]
 show wpAny _ _ (pure (((bD n 0 lo:Nat):Int),(1:Int),Builtin.Slice.slicePlaces ((bD n 0 lo:Nat):Int) ((bD n n hi:Nat):Int) 1)) _ _ s
 rw [BI]
 exact wpAny_pure h
theorem FQ (xs:Array Value) (i k:Nat):((List.range k).filterMap λ(m:Nat)=>xs[((i:Int)+ (m:Int) * 1).toNat]?).toArray = ((xs.toList.drop i).take k).toArray:=by
 have e:(λ(m:Nat)=>xs[((i:Int)+ (m:Int) * 1).toNat]?) = λm=>xs[i+m]?:=by
  funext m
  have:((i:Int)+ (m:Int) * 1).toNat = i+m:=by omega
  rw [this]
 rw [e]
 have:=pick_run xs i k
 rw [List.filterMap_map] at this
 have e2:((λx=>xs[x]?) ∘ λx=>i+x) = λm=>xs[i+m]?:=rfl
 rw [e2] at this
 rw [this]
theorem ql {t sl:Addr} {items:Array Value} {vl vu:Value} {lo hi:Option Int} {Q:Value->Shared->Prop} (ht:IsTup s.heap t items) (hs:s.heap.IsSliceOf sl vl vu .none) (pl:IsPart vl lo) (pu:IsPart vu hi)
  (hw:¬(bD items.size 0 lo = 0/\bD items.size items.size hi = items.size))
  (h:Q (.ref s.heap.objs.size) { s with heap:=s.heap.push { cls:=.type "tuple",data:=.seq ((items.toList.drop (bD items.size 0 lo)).take (bD items.size items.size hi - bD items.size 0 lo)).toArray } })
  (hsz:items.size<=sizeLine):wpAny (model prog w) A (getItem (.ref t) (.ref sl)) Q E s:=by
 have htake:sizeOk (.seq ((items.toList.drop (bD items.size 0 lo)).take (bD items.size items.size hi - bD items.size 0 lo)).toArray):=by
  show ((items.toList.drop (bD items.size 0 lo)).take (bD items.size items.size hi - bD items.size 0 lo)).toArray.size<=sizeLine
  rw [List.size_toArray,List.length_take,List.length_drop,Array.length_toList]
  omega
 have hj:bD items.size items.size hi<=items.size:=Dz _ _ (Nat.le_refl _) hi
 obtain ⟨os,hos,hcs,hds⟩:=id hs
 have hTs:s.TypeIs (.ref sl) "slice":=⟨os,hos,hcs⟩
 unfold getItem
 try with_reducible refine wpAny_holding ?_
 first | refine wpAny_bind (wpAny_pure ?_) | skip
 refine wpAny_bind (wpAny_sequenceKey ht.typeIs (by decide) ?_)
 refine wpAny_bind (wpAny_callSpecial?_slot (name:=Str.ofString "__getitem__") ht.typeIs PyProof.Rows.slot_tuple_getitem
  (wpAny_call_entry PyProof.Rows.slot_tuple_getitem ht.typeIs entry_tuple_getitem ?_ (args_tuple_getitem _ _)))
 show wpAny _ _ (Builtin.Tuple.tupleItemsOf (.ref t) >>= _) _ _ s
 refine wpAny_bind (tupleItemsOf_ ht ?_)
 refine wpAny_bind (wpAny_typeOf hTs ?_)
 rw [if_pos (by decide)]
 refine wpAny_bind (rQ hs pl pu ?_)
 have hno:¬((((bD items.size 0 lo:Nat):Int) == 0 && (1:Int) == 1 && (bD items.size items.size hi - bD items.size 0 lo) == items.size) = true):=by
  intro q
  rw [Bool.and_eq_true,Bool.and_eq_true] at q
  have q1:((bD items.size 0 lo:Nat):Int) = 0:=eq_of_beq q.1.1
  have q2:bD items.size items.size hi - bD items.size 0 lo = items.size:=eq_of_beq q.2
  exact hw ⟨by omega,by omega⟩
 show wpAny _ _ (if (((bD items.size 0 lo:Nat):Int) == 0 && (1:Int) == 1 && (bD items.size items.size hi - bD items.size 0 lo) == items.size) = true then _ else _) _ _ s
 rw [if_neg hno,FQ]
 first
  | exact wpAny_bind (m:=Builtin.Tuple.tupleExact _) (wpAny_newObj_type (wpAny_pure ⟨_,rfl,wpAny_pure h⟩) htake)
  | exact wpAny_bind (m:=Builtin.Tuple.tupleExact _) (wpAny_newObj_type (wpAny_bind (wpAny_pure (wpAny_pure ⟨_,rfl,wpAny_pure h⟩))) htake)
  | exact wpAny_bind (wpAny_bind (m:=Builtin.Tuple.tupleExact _) (wpAny_newObj_type (wpAny_pure (wpAny_pure ⟨_,rfl,wpAny_pure h⟩)) htake))
  | exact wpAny_bind (wpAny_bind (m:=Builtin.Tuple.tupleExact _) (wpAny_newObj_type (wpAny_pure ⟨_,rfl,wpAny_pure h⟩) htake))
end
end HT
namespace L2
open PySem PySem.Spec PyProof.Rows
abbrev TO:=St->Hp->(Option Int->Hp->Prop)->Prop
def PO (X:Cx) (e:Option Expr) (t:TO):Prop:=
 ∀ (pins:List (Addr×Obj)) (s:Shared) (σ:St) (H:Hp) (Q:Option Int->Hp->Prop),Inv X pins σ H s->t σ H Q->
   wpAny (model X.prog X.w) X.A (evalPart e X.env) (λu s'=>∃ o H',Inv X pins σ H' s'/\IsPart u o/\Q o H') X.xe s
def IG:TO:=λ_ H Q=>Q none H
section
variable {X:Cx} {e:Expr} {te:TE} {lo hi:Option Expr} {tl th:TO} {pos p2:Pos}
theorem Ja:PO X none IG:=by
 intro pins s σ H Q I h
 rw [evalPart_none]
 exact wpAny_pure ⟨none,H,I,.none,h⟩
def mF (X:Cx) (r:V->Option Int->Option Int->Hp->VK->Prop):Prop:=
 ∀ (pins:List (Addr×Obj)) (s:Shared) (σ:St) (H:Hp) (x:V) (v vl vu:Value) (lo hi:Option Int) (sl:Addr) (Q:VK),Inv X pins σ H s->RelV x v->s.heap.IsSliceOf sl vl vu .none->IsPart vl lo->IsPart vu hi->r x lo hi H Q->
   ∃ T id,typeLookup (.type T) "__getitem__" = pure (some (.builtin id))/\s.TypeIs v T/\wpAny (model X.prog X.w) X.A (getItem v (.ref sl)) (EP X pins σ Q) X.xe s
theorem mF.or (h:mF X r) (h':mF X r'):mF X (λx lo hi H Q=>r x lo hi H Q\/r' x lo hi H Q):=by
 intro pins s σ H x v vl vu lo hi sl Q I rx hs pl pu q
 rcases q with q | q
 ·exact h pins s σ H x v vl vu lo hi sl Q I rx hs pl pu q
 ·exact h' pins s σ H x v vl vu lo hi sl Q I rx hs pl pu q
def PZ (r:V->Option Int->Option Int->Hp->VK->Prop) (te:TE) (tl th:TO):TE:=λσ H Q=>te σ H λx H1=>tl σ H1 λl H2=>th σ H2 λu H3=>r x l u H3 Q
theorem Gk (hr:mF X r) (he:PE X e te) (hl:PO X lo tl) (hu:PO X hi th):PE X (.Subscript e (.Slice lo hi none p2) pos) (PZ r te tl th):=by
 intro pins s σ H Q I h
 refine Subscript_ (aW (he pins s σ H _ I h) λv s1 ⟨x,H1,I1,r1,q1⟩=>?_)
 refine wpAny_Slice (aW (hl pins s1 σ H1 _ I1 q1) λvl s2 ⟨l,H2,I2,pl,q2⟩=>aW (hu pins s2 σ H2 _ I2 q2) λvu s3 ⟨u,H3,I3,pu,q3⟩=>?_)
 rw [evalPart_none]
 refine wpAny_pure ?_
 have I4:Inv X pins σ H3 { s3 with heap:=s3.heap.push { cls:=.type "slice",data:=.fields #[vl,vu,.none] } }:=I3.kept (t':=s3.toks) λb ob q=>Heap.get?_push_of_some _ q
 obtain ⟨T,id,hT,ht,hg⟩:=hr pins { s3 with heap:=s3.heap.push { cls:=.type "slice",data:=.fields #[vl,vu,.none] } } σ H3 x v vl vu l u s3.heap.objs.size Q I4 r1 (Heap.IsSliceOf.new ..) pl pu q3
 show wpAny (model X.prog X.w) X.A (subscriptTail e (.Slice lo hi none p2) v (.ref s3.heap.objs.size)) (EP X pins σ Q) X.xe { s3 with heap:=s3.heap.push { cls:=.type "slice",data:=.fields #[vl,vu,.none] } }
 exact tail_any (ops:=[.ref s3.heap.objs.size,v]) ht hT hg (by with_unfolding_all rfl)
def kU (xs:List V) (lo hi:Option Int):List V:=(xs.drop (HT.bD xs.length 0 lo)).take (HT.bD xs.length xs.length hi - HT.bD xs.length 0 lo)
theorem qV (xs:List V) (lo hi:Option Int):(kU xs lo hi).length<=xs.length:=by
 unfold kU
 rw [List.length_take,List.length_drop]
 omega
def LU (K:W.Frag):V->Option Int->Option Int->Hp->VK->Prop:=λx lo hi H Q=>∃ a xs,x = .ref a/\dz K H a xs/\
 ¬(HT.bD xs.length 0 lo = 0/\HT.bD xs.length xs.length hi = xs.length)/\∀ p,H p = none->Q (.ref p) (upd H p (.tup (kU xs lo hi)))
theorem Mc:mF X (LU X.K):=by
 intro pins s σ H x v vl vu lo hi sl Q I rx hs pl pu h
 obtain ⟨a,xs,rfl,hx,hw,q⟩:=h
 cases rx
 obtain ⟨its,r,ht,hz⟩:=I.tuple hx
 have hlen:its.toArray.size = xs.length:=by rw [List.size_toArray]; exact r.length.symm
 refine ⟨"tuple",_,PyProof.Rows.slot_tuple_getitem.lookup,ht.typeIs,?_⟩
 refine HT.ql ht hs pl pu (by rw [hlen]; exact hw) ?_ (by rw [hlen]; exact hz)
 rw [hlen]
 refine ⟨.ref s.heap.objs.size,_,I.laid (t':=s.toks) (o:=.tup (kU xs lo hi)) (λb ob q=>Heap.get?_push_of_some _ q) (Nat.le_refl _) ?_,rfl,q _ (I.bt.fresh (Nat.le_refl _))⟩
 exact ⟨Nat.le_trans (qV xs lo hi) hz,_,(r.drop (HT.bD xs.length 0 lo)).take (HT.bD xs.length xs.length hi - HT.bD xs.length 0 lo),IsTup.new _ _⟩
def Hv (K:W.Frag):R2:=λx y H Q=>∃ a b xs ys,x = .ref a/\y = .ref b/\dz K H a xs/\dz K H b ys/\xs≠[]/\xs.length+ys.length<=sizeLine/\
 (ys = []->Q (.ref a) H)/\(ys≠[]->∀ p,H p = none->Q (.ref p) (upd H p (.tup (xs++ys))))
theorem Vals.uk (r:Vals xs us):us = []↔xs = []:=by
 cases r with
 | nil=>simp
 | cons _ _=>simp
theorem Ki:b4 X (binaryOp .Add) (Hv X.K):=by
 intro pins s σ H x y v u Q I rx ry h
 obtain ⟨a,b,xs,ys,rfl,rfl,ha,hb,hx,hz,q1,q2⟩:=h
 cases rx
 cases ry
 obtain ⟨its,r1,p1,_⟩:=I.tuple ha
 obtain ⟨its2,r2,p2,_⟩:=I.tuple hb
 refine HT.JC p1 p2 (λz=>hx (r1.uk.mp z)) (λz=>⟨.ref a,H,I,rfl,q1 (r2.uk.mp z)⟩) (λz=>?_) (by rw [←r1.length,←r2.length]; exact hz)
 refine ⟨.ref s.heap.objs.size,_,I.laid (t':=s.toks) (o:=.tup (xs++ys)) (λb ob q=>Heap.get?_push_of_some _ q) (Nat.le_refl _) ?_,rfl,q2 (λw=>z (r2.uk.mpr w)) _ (I.bt.fresh (Nat.le_refl _))⟩
 exact ⟨by rw [List.length_append]; exact hz,_,r1.append r2,IsTup.new _ _⟩
end
end L2
namespace L2
open PySem PySem.Spec PyProof.Rows
def kE (n:Nat) (i:Int):Option Nat:=if 0<=i then (if i < n then some i.toNat else none) else if -(n:Int)<=i then some (i+n).toNat else none
def fC {α:Type} (xs:List α) (i:Int):Option α:=(kE xs.length i).bind λj=>xs[j]?
theorem AV (h:kE n i = some j):seqIndex? i n = some j/\j < n/\-(n:Int)<=i/\i < n:=by
 unfold kE at h
 by_cases h0:0<=i
 ·rw [if_pos h0] at h
  by_cases h1:i < n
  ·rw [if_pos h1] at h
   have e:i.toNat = j:=Option.some.inj h
   exact ⟨by rw [seqIndex_of h0 h1,e],by omega,by omega,h1⟩
  ·rw [if_neg h1] at h; cases h
 ·rw [if_neg h0] at h
  by_cases h1:-(n:Int)<=i
  ·rw [if_pos h1] at h
   have e:(i+n).toNat = j:=Option.some.inj h
   exact ⟨by rw [seqIndex_neg (by omega) h1,e],by omega,h1,by omega⟩
  ·rw [if_neg h1] at h; cases h
theorem uo {α:Type} {xs:List α} {i:Int} {v:α} (h:fC xs i = some v):∃ j,seqIndex? i xs.length = some j/\xs[j]? = some v/\j < xs.length/\-(xs.length:Int)<=i/\i < xs.length:=by
 unfold fC at h
 cases e:kE xs.length i with
 | none=>rw [e] at h; cases h
 | some j=>
   rw [e] at h
   obtain ⟨h1,h2,h3,h4⟩:=AV e
   exact ⟨j,h1,h,h2,h3,h4⟩
theorem mw {α:Type} {xs:List α} {j:Nat} {v:α} (h:xs[j]? = some v):fC xs (j:Int) = some v:=by
 have hj:j < xs.length:=(List.getElem?_eq_some_iff.mp h).1
 have e:kE xs.length (j:Int) = some j:=by
  unfold kE
  rw [if_pos (by omega),if_pos (by omega)]; simp
 unfold fC; rw [e]; exact h
def jj (b:Expr):Prop:=∀ o i,subscripted b false o i = operate [o,i] (getItem o i)
def m7 (X:Cx) (r:R2):Prop:=
 ∀ (value slice:Expr) (pins:List (Addr×Obj)) (s:Shared) (σ:St) (H:Hp) (x y:V) (v u:Value) (Q:VK),Inv X pins σ H s->RelV x v->RelV y u->r x y H Q->
   subscripted slice false v u = operate [v,u] (getItem v u)->wpAny (model X.prog X.w) X.A (subscriptTail value slice v u) (EP X pins σ Q) X.xe s
def Oo (X:Cx) (id:String) (r:V->List V->Hp->VK->Prop):Prop:=
 ∀ (pins:List (Addr×Obj)) (s:Shared) (σ:St) (H:Hp) (x:V) (xs:List V) (v:Value) (us:List Value) (Q:VK),Inv X pins σ H s->RelV x v->Vals xs us->r x xs H Q->
   wpAny (model X.prog X.w) X.A (call (.builtin id) (v::us)) (EP X pins σ Q) X.xe s
section
variable {X:Cx} {a b:Expr} {ta tb:TE} {pos:Pos}
theorem m7.or (h:m7 X r) (h':m7 X r'):m7 X (λx y H Q=>r x y H Q\/r' x y H Q):=by
 intro value slice pins s σ H x y v u Q I rx ry q hs
 rcases q with q | q
 ·exact h value slice pins s σ H x y v u Q I rx ry q hs
 ·exact h' value slice pins s σ H x y v u Q I rx ry q hs
theorem Nz (hr:m7 X r) (ha:PE X a ta) (hb:PE X b tb) (hs:jj b):PE X (.Subscript a b pos) (xn r ta tb):=by
 intro pins s σ H Q I h
 exact Subscript_ (GO ha hb I h λv u s2 x y H2 I2 rx ry q=>hr a b pins s2 σ H2 x y v u Q I2 rx ry q (hs _ _))
def Ky (K:W.Frag):R2:=λx y H Q=>∃ p xs i v,x = .ref p/\y = .int i/\cR K H p xs/\fC xs i = some v/\Q v H
def KJ (K:W.Frag):R2:=λx y H Q=>∃ p xs i v,x = .ref p/\y = .int i/\dz K H p xs/\fC xs i = some v/\Q v H
def Lu:R2:=λx y H Q=>∃ z i c,x = .str z/\y = .int i/\z.length<=sizeLine/\fC z.cps.toList i = some c/\Q (.str ⟨#[c]⟩) H
theorem JY:m7 X (Ky X.K):=by
 intro value slice pins s σ H x y v u Q I rx ry h hs
 obtain ⟨p,xs,i,z,rfl,rfl,hq,he,q⟩:=h
 cases rx
 obtain ⟨t,rfl⟩:=ry
 obtain ⟨its,r,pl,hz⟩:=I.list hq
 obtain ⟨j,h1,h2,h3,h4,h5⟩:=uo he
 obtain ⟨w,ew,rw'⟩:=r.get h2
 have hl:=r.length
 have hn:=kQ
 have fin:EP X pins σ Q w s:=⟨z,H,I,rw',q⟩
 by_cases h0:0<=i
 ·have hj:i.toNat = j:=by
   rw [seqIndex_of h0 h5] at h1
   exact Option.some.inj h1
  exact item_listR pl.isList h0 (by omega) (by rw [hj]; simpa using ew) fin hs
 ·have hj:(i+ (its.toArray.size:Int)).toNat = j:=by
   rw [seqIndex_neg (by omega) h4] at h1
   rw [List.size_toArray,←hl]
   exact Option.some.inj h1
  exact subscriptTail_builtinR (x:=w) pl.isList.typeIs slot_list_getitem.lookup
   (wpAny_getItem_list_neg (Q:=λr s'=>r = w/\EP X pins σ Q r s') pl.isList (by omega) (by rw [List.size_toArray] <;> omega) (by omega) (by rw [hj]; simpa using ew) ⟨rfl,fin⟩) hs
theorem Mm:m7 X (KJ X.K):=by
 intro value slice pins s σ H x y v u Q I rx ry h hs
 obtain ⟨p,xs,i,z,rfl,rfl,hq,he,q⟩:=h
 cases rx
 obtain ⟨t,rfl⟩:=ry
 obtain ⟨its,r,pl,hz⟩:=I.tuple hq
 obtain ⟨j,h1,h2,h3,h4,h5⟩:=uo he
 obtain ⟨w,ew,rw'⟩:=r.get h2
 have hl:=r.length
 have hn:=kQ
 have fin:EP X pins σ Q w s:=⟨z,H,I,rw',q⟩
 exact subscriptTail_builtinR (x:=w) pl.typeIs slot_tuple_getitem.lookup
  (getItem_tuple (j:=j) (Q:=λr s'=>r = w/\EP X pins σ Q r s') pl (by omega) (by omega) (by rw [List.size_toArray,←hl]; exact h1) (by simpa using ew) ⟨rfl,fin⟩) hs
theorem Me:m7 X Lu:=by
 intro value slice pins s σ H x y v u Q I rx ry h hs
 obtain ⟨z,i,c,rfl,rfl,hz,he,q⟩:=h
 obtain ⟨t,rfl⟩:=rx
 obtain ⟨t',rfl⟩:=ry
 obtain ⟨j,h1,h2,h3,h4,h5⟩:=uo he
 have hl:z.cps.toList.length = z.length:=by simp [Str.length]
 rw [hl] at h1 h4 h5
 have hn:=kQ
 exact tail_any (typeIs_str s z t) slot_str_getitem.lookup (getItem_str (c:=c) (by
  have e1:decide (i < -(2 ^ 63:Int)) = false:=decide_eq_false (by omega)
  have e2:decide (i≥2 ^ 63) = false:=decide_eq_false (by omega)
  rw [e1,e2,Bool.or_false]) (by rw [h1]; simpa using h2) ⟨.str ⟨#[c]⟩,H,I.tok _,⟨_,rfl⟩,q⟩) hs
def P7 (K:W.Frag):R2:=λx y H Q=>Ky K x y H Q\/KJ K x y H Q\/Lu x y H Q
theorem KO:m7 X (P7 X.K):=JY.or (Mm.or Me)
theorem Cz (its:List Value) (n j:Nat) (u:Value):Obj.mapSeq (·.setIfInBounds j u) { cls:=.type "list",data:=.seq its.toArray n } = { cls:=.type "list",data:=.seq (its.set j u).toArray n }:=by
 simp [Obj.mapSeq]
theorem Inv.lst (I:Inv X pins σ H s) (h:H p = some (.lst xs)):
  ∃ (its:List Value) (n:Nat),Vals xs its/\s.heap.get? p = some { cls:=.type "list",data:=.seq its.toArray n }/\xs.length<=sizeLine:=by
 obtain ⟨z,its,n,r,e⟩:=I.bt p _ h
 exact ⟨its,n,r,e,z⟩
theorem Inv.LR {pins:List (Addr×Obj)} {σ:St} {H:Hp} {s:Shared} {p:Addr} {xs ys:List V} {its its':List Value} {n n':Nat} {f:Obj->Obj} (I:Inv X pins σ H s) (h:H p = some (.lst xs))
  (ho:s.heap.get? p = some { cls:=.type "list",data:=.seq its.toArray n }) (hf:f { cls:=.type "list",data:=.seq its.toArray n } = { cls:=.type "list",data:=.seq its'.toArray n' }) (r:Vals ys its') (hz:ys.length<=sizeLine) (t:Nat):
  Inv X pins σ (upd H p (.lst ys)) { s with heap:=s.heap.update p f,toks:=t }:=by
 have e:(s.heap.update p f).get? p = some { cls:=.type "list",data:=.seq its'.toArray n' }:=by
  rw [Heap.get?_update_self f ho (by rw [hf] <;> rfl),hf]
 refine I.write (x:=p) (e:=p) (by rw [h]; trivial) (.inl rfl) (λb u hb q=>(Heap.get?_update_other _ _ (Ne.symm hb)).trans q) ⟨_,e⟩ ?_
 exact ⟨hz,its',n',r,e⟩
def Hy:V->V->V->Hp->(Hp->Prop)->Prop:=λo i v H Q=>∃ p xs k j,o = .ref p/\i = .int k/\H p = some (.lst xs)/\kE xs.length k = some j/\Q (upd H p (.lst (xs.set j v)))
theorem set_list:OE X Hy:=by
 intro pins s σ H o i v ov iv u Q I ro ri rv h
 obtain ⟨p,xs,k,j,rfl,rfl,hp,hj,q⟩:=h
 cases ro
 obtain ⟨t,rfl⟩:=ri
 obtain ⟨its,n,r,ho,hz⟩:=I.lst hp
 obtain ⟨h1,h2,h3,h4⟩:=AV hj
 have hl:=r.length
 have hn:=kQ
 have I':Inv X pins σ (upd H p (.lst (xs.set j v))) { s with heap:=s.heap.update p (Obj.mapSeq (·.setIfInBounds j u)) }:=
  I.LR hp ho (Cz its n j u) (r.set rv j) (by rw [List.length_set]; exact hz) s.toks
 by_cases h0:0<=k
 ·have hk:k.toNat = j:=by
   rw [seqIndex_of h0 h4] at h1
   exact Option.some.inj h1
  exact PySem.W.ki_setAt ho h0 (by omega) (by rw [List.size_toArray,←hl]; exact h4) (by rw [hk]; exact ⟨_,I',q⟩)
 ·have hk:(k+ (its.toArray.size:Int)).toNat = j:=by
   rw [seqIndex_neg (by omega) h3] at h1
   rw [List.size_toArray,←hl]
   exact Option.some.inj h1
  exact PySem.W.ki_setBack ho (by omega) (by rw [List.size_toArray,←hl]; exact h3) (by omega) (by rw [hk]; exact ⟨_,I',q⟩)
theorem xm (lo hi:Option Int) (n:Nat):(sliceBounds lo hi none n).1 = ((HT.bD n 0 lo:Nat):Int)/\(sliceBounds lo hi none n).2.1 = ((HT.bD n n hi:Nat):Int)/\(sliceBounds lo hi none n).2.2 = 1:=by
 refine ⟨?_,?_,rfl⟩
 ·cases lo with
  | none=>simp [sliceBounds,HT.bD]
  | some i=>
    simp only [sliceBounds,HT.bD,Option.getD_none,show (1:Int) > 0 by decide,if_true]
    by_cases h:i < 0
    ·simp only [h,if_true] <;> omega
    ·simp only [h,if_false] <;> omega
 ·cases hi with
  | none=>simp [sliceBounds,HT.bD]
  | some i=>
    simp only [sliceBounds,HT.bD,Option.getD_none,show (1:Int) > 0 by decide,if_true]
    by_cases h:i < 0
    ·simp only [h,if_true] <;> omega
    ·simp only [h,if_false] <;> omega
theorem wa (its:List Value) (lo hi:Option Int):slicePick its.toArray lo hi none = ((its.drop (HT.bD its.length 0 lo)).take (HT.bD its.length its.length hi - HT.bD its.length 0 lo)).toArray:=by
 obtain ⟨h1,h2,h3⟩:=xm lo hi its.toArray.size
 unfold slicePick
 rw [h1,h2,h3]
 simp only [sliceRange_one,pick_run,List.size_toArray] <;> rfl
def Ph (K:W.Frag):V->Option Int->Option Int->Hp->VK->Prop:=λx lo hi H Q=>∃ a xs,x = .ref a/\cR K H a xs/\∀ p,H p = none->Q (.ref p) (upd H p (.lst (kU xs lo hi)))
theorem IP:mF X (Ph X.K):=by
 intro pins s σ H x v vl vu lo hi sl Q I rx hs pl pu h
 obtain ⟨a,xs,rfl,hx,q⟩:=h
 cases rx
 obtain ⟨its,r,ht,hz⟩:=I.list hx
 have hlen:=r.length
 refine ⟨"list",_,slot_list_getitem.lookup,ht.isList.typeIs,?_⟩
 refine wpAny_getItem_list_slice ht.isList hs pl pu .none (by simp) ?_ (by rw [List.size_toArray] <;> omega)
 rw [wa,←hlen]
 refine ⟨.ref s.heap.objs.size,_,I.laid (t':=s.toks) (o:=.lst (kU xs lo hi)) (λb ob q=>Heap.get?_push_of_some _ q) (Nat.le_refl _) ?_,rfl,q _ (I.bt.fresh (Nat.le_refl _))⟩
 exact ⟨Nat.le_trans (qV xs lo hi) hz,_,0,(r.drop (HT.bD xs.length 0 lo)).take (HT.bD xs.length xs.length hi - HT.bD xs.length 0 lo),Heap.get?_push_size _ rfl⟩
def ip:V->Bool
 | .non=>true
 | .bl _=>true
 | .int _=>true
 | .str _=>true
 | _=>false
def qU:V->V->Bool
 | .non,.non=>true
 | .bl a,.bl b=>a == b
 | .bl a,.int b=>(if a then 1 else 0) == b
 | .int a,.bl b=>a == (if b then 1 else 0)
 | .int a,.int b=>a == b
 | .str a,.str b=>a == b
 | _,_=>false
theorem Lf (ry:RelV y u) (rx:RelV x v) (fy:ip y = true) (fx:ip x = true):SeqAt.EqAt A s u v (qU y x):=by
 cases y with
 | non=>
   cases ry
   cases x with
   | non=>cases rx; exact SeqAt.EqAt.same _
   | bl b=>cases rx; exact SeqAt.EqAt.none_bool b
   | int b=>obtain ⟨t,rfl⟩:=rx; exact SeqAt.EqAt.none_int b t
   | str b=>obtain ⟨t,rfl⟩:=rx; exact SeqAt.EqAt.none_str b t
   | _=>exact absurd (show false = true from fx) Bool.false_ne_true
 | bl a=>
   cases ry
   cases x with
   | non=>cases rx; exact SeqAt.EqAt.bool_none a
   | bl b=>cases rx; exact SeqAt.EqAt.bool_bool a b
   | int b=>obtain ⟨t,rfl⟩:=rx; exact SeqAt.EqAt.bool_int a b t
   | str b=>obtain ⟨t,rfl⟩:=rx; exact SeqAt.EqAt.bool_str a b t
   | _=>exact absurd (show false = true from fx) Bool.false_ne_true
 | int a=>
   obtain ⟨t',rfl⟩:=ry
   cases x with
   | non=>cases rx; exact SeqAt.EqAt.int_none a t'
   | bl b=>cases rx; exact SeqAt.EqAt.int_bool a t' b
   | int b=>obtain ⟨t,rfl⟩:=rx; exact SeqAt.EqAt.int_int a t' b t
   | str b=>obtain ⟨t,rfl⟩:=rx; exact SeqAt.EqAt.int_str a t' b t
   | _=>exact absurd (show false = true from fx) Bool.false_ne_true
 | str a=>
   obtain ⟨t',rfl⟩:=ry
   cases x with
   | non=>cases rx; exact SeqAt.EqAt.str_none a t'
   | bl b=>cases rx; exact SeqAt.EqAt.str_bool a t' b
   | int b=>obtain ⟨t,rfl⟩:=rx; exact SeqAt.EqAt.str_int a t' b t
   | str b=>obtain ⟨t,rfl⟩:=rx; exact SeqAt.EqAt.str_str a t' b t
   | _=>exact absurd (show false = true from fx) Bool.false_ne_true
 | _=>exact absurd (show false = true from fy) Bool.false_ne_true
def kn (x:V) (u:Value):Bool:=match u with
 | .none=>qU .non x
 | .bool b=>qU (.bl b) x
 | .int i _=>qU (.int i) x
 | .str z _=>qU (.str z) x
 | _=>false
theorem Dt (r:RelV y u) (f:ip y = true):kn x u = qU y x:=by
 cases y with
 | non=>cases r; rfl
 | bl b=>cases r; rfl
 | int i=>obtain ⟨t,rfl⟩:=r; rfl
 | str z=>obtain ⟨t,rfl⟩:=r; rfl
 | _=>exact absurd (show false = true from f) Bool.false_ne_true
theorem mI:∀ {xs:List V} {us:List Value},Vals xs us->xs.all ip = true->us.any (kn x) = xs.any λy=>qU y x
 | _,_,.nil,_=>rfl
 | y::xs,u::us,.cons r t,f=>by
   rw [List.all_cons,Bool.and_eq_true] at f
   rw [List.any_cons,List.any_cons,Dt r f.1,mI t f.2]
theorem kB (rx:RelV x v) (fx:ip x = true):∀ {xs:List V} {us:List Value},Vals xs us->xs.all ip = true->∀ u∈us,SeqAt.EqAt A s u v (kn x u)
 | _,_,.nil,_=>λu hu=>by cases hu
 | y::xs,u::us,.cons r t,f=>λu' hu=>by
   rw [List.all_cons,Bool.and_eq_true] at f
   rcases List.mem_cons.mp hu with rfl | hu
   ·rw [Dt r f.1]; exact Lf r rx f.1 fx
   ·exact kB rx fx t f.2 u' hu
def Eh (x:V) (xs:List V):Bool:=xs.any λy=>qU y x
def Ot (K:W.Frag) (neg:Bool):R2:=λx y H Q=>∃ p xs,y = .ref p/\(cR K H p xs\/dz K H p xs)/\ip x = true/\xs.all ip = true/\Q (.bl (if neg then !Eh x xs else Eh x xs)) H
theorem DR:b4 X (compareOp .In) (Ot X.K false):=by
 intro pins s σ H x y v u Q I rx ry h
 obtain ⟨p,xs,rfl,hq,fx,fs,q⟩:=h
 cases ry
 rcases hq with hq | hq
 ·obtain ⟨its,r,pl,hz⟩:=I.list hq
  refine SeqAt.in_listAt (kn x) pl.isList (λw hw=>kB rx fx r fs w (by simpa using hw)) ⟨.bl _,H,I,rfl,?_⟩
  rw [show its.toArray.any (kn x) = its.any (kn x) by simp,mI r fs]
  exact q
 ·obtain ⟨its,r,pl,hz⟩:=I.tuple hq
  refine SeqAt.in_tupleAt (kn x) pl (λw hw=>kB rx fx r fs w (by simpa using hw)) ⟨.bl _,H,I,rfl,?_⟩
  rw [show its.toArray.any (kn x) = its.any (kn x) by simp,mI r fs]
  exact q
theorem xy:b4 X (compareOp .NotIn) (Ot X.K true):=by
 intro pins s σ H x y v u Q I rx ry h
 obtain ⟨p,xs,rfl,hq,fx,fs,q⟩:=h
 cases ry
 rcases hq with hq | hq
 ·obtain ⟨its,r,pl,hz⟩:=I.list hq
  refine SeqAt.notIn_listAt (kn x) pl.isList (λw hw=>kB rx fx r fs w (by simpa using hw)) ⟨.bl _,H,I,rfl,?_⟩
  rw [show its.toArray.any (kn x) = its.any (kn x) by simp,mI r fs]
  exact q
 ·obtain ⟨its,r,pl,hz⟩:=I.tuple hq
  refine SeqAt.notIn_tupleAt (kn x) pl (λw hw=>kB rx fx r fs w (by simpa using hw)) ⟨.bl _,H,I,rfl,?_⟩
  rw [show its.toArray.any (kn x) = its.any (kn x) by simp,mI r fs]
  exact q
theorem yN:cq X (.builtin "len") (λxs H Q=>∃ p ys,xs = [.ref p]/\(cR X.K H p ys\/dz X.K H p ys)/\Q (.int ys.length) H):=by
 intro pins s σ H xs us Q I r h
 obtain ⟨p,ys,rfl,hq,q⟩:=h
 obtain ⟨u,rfl,rx⟩:=vals1 r
 cases rx
 have hn:=kQ
 rcases hq with hq | hq
 ·obtain ⟨its,r',pl,hz⟩:=I.list hq
  have hlen:=r'.length
  exact Calls.call_len_list pl.isList (by simp only [List.size_toArray] <;> omega) ⟨.int ys.length,H,I.tok _,⟨s.toks+1,by rw [List.size_toArray,hlen]⟩,q⟩
 ·obtain ⟨its,r',pl,hz⟩:=I.tuple hq
  have hlen:=r'.length
  exact len_tuple pl (by simp only [List.size_toArray] <;> omega) ⟨.int ys.length,H,I.tok _,⟨s.toks+1,by rw [List.size_toArray,hlen]⟩,q⟩
theorem yR:cq X (.builtin "len") (λxs H Q=>∃ z,xs = [.str z]/\z.length<=sizeLine/\Q (.int z.length) H):=by
 intro pins s σ H xs us Q I r h
 obtain ⟨z,rfl,hz,q⟩:=h
 obtain ⟨u,rfl,t,rfl⟩:=vals1 r
 have hn:=kQ
 exact len_str (by omega) ⟨.int z.length,H,I.tok _,⟨_,rfl⟩,q⟩
theorem cq.or (h:cq X f r) (h':cq X f r'):cq X f (λxs H Q=>r xs H Q\/r' xs H Q):=by
 intro pins s σ H xs us Q I rs q
 rcases q with q | q
 ·exact h pins s σ H xs us Q I rs q
 ·exact h' pins s σ H xs us Q I rs q
theorem xA:cq X (.type "list") (λxs H Q=>∃ p ys,xs = [.ref p]/\(cR X.K H p ys\/dz X.K H p ys)/\∀ l,H l = none->Q (.ref l) (upd H l (.lst ys))):=by
 intro pins s σ H xs us Q I r h
 obtain ⟨p,ys,rfl,hq,q⟩:=h
 obtain ⟨u,rfl,rx⟩:=vals1 r
 cases rx
 have fin:∀ (its:List Value),Vals ys its->ys.length<=sizeLine->∀ (h':Heap) (c':Nat),(∀ b o',s.heap.get? b = some o'->h'.get? b = some o')->
   h'.get? s.heap.objs.size = some { cls:=.type "list",dict:=none,data:=.seq its.toArray c',slots:=#[] }->EP X pins σ Q (.ref s.heap.objs.size) { s with heap:=h' }:=λits r' hz h' c' kp e=>
  ⟨.ref s.heap.objs.size,_,I.laid (t':=s.toks) kp (Nat.le_refl _) (show dD X.prog X.w _ h' _ (.lst ys) from ⟨hz,its,c',r',e⟩),rfl,q _ (I.bt.fresh (Nat.le_refl _))⟩
 rcases hq with hq | hq
 ·obtain ⟨its,r',pl,hz⟩:=I.list hq
  have hlen:=r'.length
  obtain ⟨o,ho,hc,n,hd⟩:=pl.isList
  exact call_list_seq p (.inl rfl) ho hc hd (λh' c' kp e=>fin its r' hz h' c' kp e) (by simp only [List.size_toArray] <;> omega)
 ·obtain ⟨its,r',pl,hz⟩:=I.tuple hq
  have hlen:=r'.length
  obtain ⟨o,ho,hc,n,hd⟩:=pl
  exact call_list_seq p (.inr rfl) ho hc hd (λh' c' kp e=>fin its r' hz h' c' kp e) (by simp only [List.size_toArray] <;> omega)
def OA (K:W.Frag) (T:String) (x:V) (H:Hp):Prop:=match x with
 | .str _=>T = "str"
 | .int _=>T = "int"
 | .ref p=>(T = "list"/\∃ xs,cR K H p xs)\/(T = "tuple"/\∃ o,K.lookup p = some o/\o.cls = .type "tuple"/\o.dict = none)\/
   (T = "dict"/\(∃ kvs,H p = some (.dK kvs)))\/(T = "set"/\∃ S n,H p = some (.set S n))
 | _=>False
theorem KH (I:Inv X pins σ H s) (r:RelV x v) (ty:OA X.K T x H):
  s.TypeIs v T/\∀ a,v = .ref a->∃ ob,s.heap.get? a = some ob/\ob.dict = none:=by
 cases x with
 | str z=>
   obtain ⟨t,rfl⟩:=r
   cases (show T = "str" from ty)
   exact ⟨typeIs_str s z t,λ_ e=>nomatch e⟩
 | int i=>
   obtain ⟨t,rfl⟩:=r
   cases (show T = "int" from ty)
   exact ⟨typeIs_int s i t,λ_ e=>nomatch e⟩
 | ref p=>
   cases r
   rcases ty with ⟨rfl,xs,hq⟩ | ⟨rfl,o,hk,hc,hd⟩ | ⟨rfl,hk⟩ | ⟨rfl,S,n,hk⟩
   ·obtain ⟨its,_,pl,_⟩:=I.list hq
    refine ⟨pl.isList.typeIs,λa e=>?_⟩
    cases e
    obtain ⟨o,n,e,c,hd,_⟩:=pl
    exact ⟨o,e,hd⟩
   ·refine ⟨⟨o,I.gZ p o hk,hc⟩,λa e=>?_⟩
    cases e
    exact ⟨o,I.gZ _ o hk,hd⟩
   ·have z:∃ o,s.heap.get? p = some o/\o.ExactDict:=by
     obtain ⟨kvs,hk⟩:=hk
     obtain ⟨_,_,_,_,o,_,_,e,ex,_⟩:=I.bt p _ hk
     exact ⟨o,e,ex⟩
    obtain ⟨o,e,ex⟩:=z
    refine ⟨⟨o,e,ex.1⟩,λa e2=>?_⟩
    cases e2
    exact ⟨o,e,ex.2.1⟩
   ·obtain ⟨o,_,_,_,e,ex,_⟩:=I.bt p _ hk
    refine ⟨⟨o,e,ex.1⟩,λa e2=>?_⟩
    cases e2
    exact ⟨o,e,ex.2.1⟩
 | _=>exact False.elim ty
def Lc (K:W.Frag) (T:String) (r:V->List V->Hp->VK->Prop) (to:TE) (t:TA):TE:=λσ H Q=>to σ H λx H1=>OA K T x H1/\t σ H1 λxs H2=>r x xs H2 Q
variable {o e:Expr} {es:List Expr} {to:TE} {t:TA} {name:Str} {apos cpos:Pos} {T id:String} {r:V->List V->Hp->VK->Prop}
theorem NU (pa:PlainAttrs T) (slot:Slot T name id) (hty:typeOf (.builtin id) = pure (.type "method_descriptor")) (hm:Oo X id r) (ho:PE X o to) (ha:PA X (e::es) t)
  (hbase:attributeBase o name X.env (eval o X.env) = eval o X.env:=by rfl)
  (hfew:((backTo cpos (starEach (e::es) X.env)).all (λx=>!x.1) && (backToKw cpos (keywordEach [] X.env)).all (λx=>x.1.isSome)
   && decide ((e::es).length+ ([]:List Keyword).length+ (if ([]:List Keyword).isEmpty then 0 else 1) < 30)) = true:=by rfl)
  (hline:(apos.endLine == cpos.line) = true:=by rfl) (hs:starEach (e::es) X.env = (false,eval e X.env)::starEach es X.env:=by rfl) (hplain:(backTo cpos (starEach es X.env)).any (·.1) = false:=by rfl):
  PE X (.Call (.Attribute o name apos) (e::es) [] cpos) (Lc X.K T r to t):=by
 intro pins s σ H Q I h
 refine wpAny_Call_method_late hbase hfew hline rfl (aW (ho pins s σ H _ I h) λv s1 ⟨x,H1,I1,r1,ty,q1⟩=>?_)
 obtain ⟨h1,h2⟩:=KH I1 r1 ty
 refine ⟨T,id,pa,slot,hty,h1,h2,?_⟩
 have hA:=ha cpos pins s1 σ H1 _ I1 q1
 rw [hs] at hA ⊢
 refine Calls.callWith_builtin (by show (false || (backTo cpos (starEach es X.env)).any (·.1)) = false; rw [hplain] <;> rfl) (Calls.evalArgs_plain ?_)
 exact aW hA λus s2 ⟨vs,H2,I2,r2,q2⟩=>hm pins s2 σ H2 x vs v us Q I2 r1 r2 q2
end
end L2
namespace L2
open PySem PySem.Spec PyProof.Rows
def PR (X:Cx) (id:String) (r:V->List V->Hp->VK->Prop):Prop:=
 ∀ (pins:List (Addr×Obj)) (s:Shared) (σ:St) (H:Hp) (x:V) (xs:List V) (v:Value) (us:List Value) (Q:VK),Inv X pins σ H s->RelV x v->Vals xs us->r x xs H Q->
   wpAny (model X.prog X.w) X.A (call (.builtin id) (v::us)) (EP X pins σ Q) X.xe s
theorem Vals.one:∀ {x:V} {us:List Value},Vals [x] us->∃ u,us = [u]/\RelV x u
 | _,_,.cons r .nil=>⟨_,rfl,r⟩
section
variable {X:Cx} {pins:List (Addr×Obj)} {σ:St} {H:Hp} {s:Shared} {l b:Addr} {xs ys zs:List V}
theorem Inv.OS {its its':List Value} {n:Nat} {f:Array Value->Array Value} {t':Nat} (I:Inv X pins σ H s) (hH:H l = some (.lst xs))
  (e:s.heap.get? l = some { cls:=.type "list",data:=.seq its.toArray n }) (hf:f its.toArray = its'.toArray) (hv:Vals ys its') (hz:ys.length<=sizeLine):
  Inv X pins σ (upd H l (.lst ys)) { s with heap:=s.heap.update l (Obj.mapSeq f),toks:=t' }:=by
 have q:=PySem.IsL.update e f
 rw [hf] at q
 refine I.write (x:=l) (e:=l) (by rw [hH]; exact trivial) (.inl rfl) (λb' u hb hu=>(Heap.get?_update_other s.heap (Obj.mapSeq f) (Ne.symm hb)).trans hu) ⟨_,q⟩ ?_
 exact ⟨hz,its',_,hv,q⟩
theorem Inv.Lh (I:Inv X pins σ H s) (hv:Vals ys its) (hz:ys.length<=sizeLine):
  Inv X pins σ (upd H s.heap.objs.size (.lst ys)) { s with heap:=s.heap.push { cls:=.type "list",data:=.seq its.toArray },toks:=t' }:=
 I.laid (λ_ _ q=>Heap.get?_push_of_some _ q) (Nat.le_refl _) ⟨hz,its,0,hv,Heap.get?_push_size _ rfl⟩
theorem Inv.fresh (I:Inv X pins σ H s):H s.heap.objs.size = none:=I.bt.fresh (Nat.le_refl _)
theorem Inv.OL (I:Inv X pins σ H s) (hH:H l = some (.lst xs)):xs.length<=sizeLine/\∃ (its:List Value) (n:Nat),Vals xs its/\xs.length = its.length/\s.heap.get? l = some { cls:=.type "list",data:=.seq its.toArray n }:=by
 obtain ⟨z,its,n,r,e⟩:=I.bt l _ hH
 exact ⟨z,its,n,r,r.length,e⟩
end
section
variable {X:Cx}
def JV:V->List V->Hp->VK->Prop:=λx vs H Q=>∃ l xs y,x = .ref l/\vs = [y]/\H l = some (.lst xs)/\xs.length < sizeLine/\Q .non (upd H l (.lst (xs++[y])))
theorem oR:PR X "list.append" JV:=by
 intro pins s σ H x vs v us Q I rx rv h
 obtain ⟨l,xs,y,rfl,rfl,hH,hz,q⟩:=h
 cases rx
 obtain ⟨u,rfl,ru⟩:=rv.one
 obtain ⟨z,its,n,r,hl,e⟩:=I.OL hH
 refine call_meets F.slot_list_append ⟨_,e,rfl⟩ F.entry_list_append (F.args_list_append_2 _ _) (PySem.list_append l its.toArray n u (by rw [List.size_toArray]; omega)) ⟨e,?_⟩
 refine ⟨.non,_,I.OS (its':=its++[u]) hH e (by simp) (r.append (.cons ru .nil)) ?_,rfl,q⟩
 rw [List.length_append,List.length_singleton]
 omega
end
section
variable {prog:Program} {w:World} {A:Around} {E:Value->Shared->Prop} {s:Shared}
set_option maxRecDepth 100000 in
end
section
variable {X:Cx}
end
end L2
namespace L2
open PySem PySem.Spec PyProof.Rows
section
variable {κ:Type} [DecidableEq κ]
def lL (kvs:List (κ×V)) (k:κ):Option V:=(kvs.find? λkv=>decide (kv.1 = k)).map (·.2)
def putK (kvs:List (κ×V)) (k:κ) (v:V):List (κ×V):=
 if (kvs.any λkv=>decide (kv.1 = k)) = true then kvs.map (λkv=>if kv.1 = k then (kv.1,v) else kv) else kvs++[(k,v)]
theorem yc {p:κ×V} {r:List (κ×V)} {k:κ} (e:p.1 = k):lL (p::r) k = some p.2:=by simp [lL,List.find?_cons,e]
theorem yX {p:κ×V} {r:List (κ×V)} {k:κ} (e:¬p.1 = k):lL (p::r) k = lL r k:=by simp [lL,List.find?_cons,e]
theorem zx (kvs:List (κ×V)) (k:κ) (v:V):(putK kvs k v).length<=kvs.length+1:=by
 unfold putK
 split
 ·rw [List.length_map]; omega
 ·rw [List.length_append,List.length_cons,List.length_nil]; omega
theorem iT.vN (r:iT o u):o.isSome = u.isSome:=by
 cases o with
 | none=>cases u with
   | none=>rfl
   | some _=>exact (show False from r).elim
 | some _=>cases u with
   | none=>exact (show False from r).elim
   | some _=>rfl
theorem KV.val {kvs:List (κ×V)} {vs:List (κ×Value)} (r:KV kvs vs) (k:κ):iT (lL kvs k) (valueAt vs k):=by
 unfold KV at r
 induction r with
 | nil=>exact True.intro
 | @cons p q ps qs h t ih=>
   obtain ⟨h1,h2⟩:=h
   by_cases e:p.1 = k
   ·have e':q.1 = k:=h1.symm.trans e
    have b:valueAt (q::qs) k = some q.2:=by simp [valueAt,List.find?_cons,e']
    rw [yc e,b]; exact h2
   ·have e':¬q.1 = k:=λz=>e (h1.trans z)
    have b:valueAt (q::qs) k = valueAt qs k:=by simp [valueAt,List.find?_cons,e']
    rw [yX e,b]; exact ih
theorem KV.any (r:KV kvs vs) (k:κ):(kvs.any λkv=>decide (kv.1 = k)) = vs.any λkv=>decide (kv.1 = k):=by
 unfold KV at r
 induction r with
 | nil=>rfl
 | cons h t ih=>rw [List.any_cons,List.any_cons,ih,h.1]
theorem KV.O6 (r:KV kvs vs) (k:κ) (ry:RelV y u):
  KV (kvs.map λkv=>if kv.1 = k then (kv.1,y) else kv) (vs.map λkv=>if kv.1 = k then (kv.1,u) else kv):=by
 unfold KV at r ⊢
 induction r with
 | nil=>exact .nil
 | @cons p q ps qs h t ih=>
   rw [List.map_cons,List.map_cons]
   refine .cons ?_ ih
   obtain ⟨h1,h2⟩:=h
   by_cases e:p.1 = k
   ·rw [if_pos e,if_pos (h1.symm.trans e)]; exact ⟨h1,ry⟩
   ·rw [if_neg e,if_neg (λz=>e (h1.trans z))]; exact ⟨h1,h2⟩
theorem KV.put (r:KV kvs vs) (k:κ) (ry:RelV y u):KV (putK kvs k y) (stored vs k u):=by
 unfold putK stored
 rw [r.any k]
 by_cases e:(vs.any λkv=>decide (kv.1 = k)) = true
 ·rw [if_pos e,if_pos e]; exact r.O6 k ry
 ·rw [if_neg e,if_neg e]; exact Paired.snoc r ⟨rfl,ry⟩
theorem KV.keys {kvs:List (κ×V)} {vs:List (κ×Value)} (r:KV kvs vs):kvs.map (·.1) = vs.map (·.1):=by
 unfold KV at r
 induction r with
 | nil=>rfl
 | cons h t ih=>rw [List.map_cons,List.map_cons,ih,h.1]
theorem KV.length (r:KV kvs vs):kvs.length = vs.length:=Paired.length r
end
theorem wz (r:RelV (kV k) u):(gR P w).is k u = true:=by
 cases k with
 | inl i=>obtain ⟨t,e⟩:=(show ∃ t,u = Value.int i t from r); subst e; exact zT P w i t
 | inr x=>obtain ⟨t,e⟩:=(show ∃ t,u = Value.str x t from r); subst e; exact zu P w x t
section
variable {P:Program} {w:World} {H:Hp} {h:Heap} {a:Addr}
theorem N8 (ok:eX P w H h) (e:Rd H a u):dD P w H h a u:=e.ok ok
theorem qd (ok:eX P w H h) (e:Rd H a (.dK kvs)):kvs.length<=sizeLine/\(a == sysModules) = false/\∃ vs,KV kvs vs/\h.DictOf (gR P w) a vs:=
 show dD P w H h a (.dK kvs) from N8 ok e
theorem N9 (ok:eX P w H h) (e:H a = some (.dK kvs)):kvs.length<=sizeLine/\(a == sysModules) = false/\∃ vs,KV kvs vs/\h.DictOf (gR P w) a vs:=qd ok (.inl e)
end
def pD (H:Hp) (a:Addr) (y:V) (r:Option V):Prop:=
 ∃ kvs k,Rd H a (.dK kvs)/\y = kV k/\r = lL kvs k
def KZ (H:Hp) (a:Addr) (y v:V) (H':Hp):Prop:=
 ∃ kvs k,H a = some (.dK kvs)/\y = kV k/\kvs.length < sizeLine/\H' = upd H a (.dK (putK kvs k v))
section
variable {X:Cx} {pins:List (Addr×Obj)} {σ:St} {H:Hp} {s:Shared} {a:Addr} {y v:V} {u r:Value} {o:Option V} {A:Around} {E:Value->Shared->Prop}
theorem Inv.big (I:Inv X pins σ H s):sysModules < s.heap.objs.size:=by
 have h:mainGlobals < s.heap.objs.size:=(I.mod.glob.keeps I.bk).lt
 exact Nat.lt_trans (by decide) h
theorem D7 (hu:A.units+1 < cLine) (I:Inv X pins σ H s) (g:pD H a y (some v)) (ry:RelV y u) (h:∀ w' s',Inv X pins σ H s'->RelV v w'->Q w' s'):
  wpAny (model X.prog X.w) A (getItem (.ref a) u) Q E s:=by
 obtain ⟨kvs,k,e,ey,l⟩:=g
 subst ey
 obtain ⟨z,hd,vs,rel,dd⟩:=qd I.bt e
 obtain ⟨w',hw,rw'⟩:=iT.some_of (v:=v) (o:=valueAt vs k) (by rw [l]; exact rel.val k)
 exact wpAny_getItem_of (wz ry) dd.mapOf hw (h w' _ (I.tok _) rw')
theorem OV (hu:A.units+1 < cLine) (I:Inv X pins σ H s) (g:pD H a y o) (ry:RelV y u) (h:∀ s',Inv X pins σ H s'->Q (.bool o.isSome) s'):
  wpAny (model X.prog X.w) A (compareOp .In u (.ref a)) Q E s:=by
 obtain ⟨kvs,k,e,ey,l⟩:=g
 subst ey
 obtain ⟨z,hd,vs,rel,dd⟩:=qd I.bt e
 refine wpAny_in_of (wz ry) hd dd.mapOf ?_
 rw [←(rel.val k).vN,←l]
 exact h _ (I.tok _)
theorem Jr (hu:A.units+1 < cLine) (I:Inv X pins σ H s) (g:pD H a y o) (ry:RelV y u) (h:∀ s',Inv X pins σ H s'->Q (.bool (!o.isSome)) s'):
  wpAny (model X.prog X.w) A (compareOp .NotIn u (.ref a)) Q E s:=by
 obtain ⟨kvs,k,e,ey,l⟩:=g
 subst ey
 obtain ⟨z,hd,vs,rel,dd⟩:=qd I.bt e
 refine wpAny_notIn_of (wz ry) hd dd.mapOf ?_
 rw [←(rel.val k).vN,←l]
 exact h _ (I.tok _)
theorem Jd (I:Inv X pins σ H s) (mu:ES (H a)) (hs:Heap.SameBut a s.heap h') (he:∃ q,h'.get? a = some q) (new:dD X.prog X.w (upd H a ob) h' a ob):
  Inv X pins σ (upd H a ob) { s with heap:=h',toks:=t' }:=
 I.write (x:=a) (e:=a) mu (.inl rfl) (λb q hb z=>(hs.2 b hb).trans z) he new
theorem Kn (z:kvs.length<=sizeLine) (hd:(a == sysModules) = false) (rel:KV kvs vs) (dd:h'.DictOf (gR P w) a vs):
  dD P w H' h' a (.dK kvs):=⟨z,hd,vs,rel,dd⟩
theorem DD (hu:A.units+1 < cLine) (I:Inv X pins σ H s) (g:KZ H a y v H') (ry:RelV y u) (rv:RelV v r) (h:∀ s',Inv X pins σ H' s'->Q () s'):
  wpAny (model X.prog X.w) A (setItem (.ref a) u r) Q E s:=by
 obtain ⟨kvs,k,e,ey,l,eH⟩:=g
 subst ey eH
 obtain ⟨z,hd,vs,rel,dd⟩:=N9 I.bt e
 have hz:vs.length<=sizeLine:=by rw [←rel.length]; exact z
 have hl:(putK kvs k v).length<=sizeLine:=by have:=zx kvs k v; omega
 refine wpAny_setItem_pairs (hsz:=hz) (wz ry) dd λh' dd' hs=>h _ ?_
 have he:∃ q,h'.get? a = some q:=let ⟨q,_,_,hq,_⟩:=dd'; ⟨q,hq⟩
 exact Jd I (by rw [e]; exact True.intro) hs he (Kn hl hd (rel.put k rv) dd')
end
section
variable {X:Cx} {pins:List (Addr×Obj)} {σ:St} {H:Hp} {s:Shared} {a:Addr} {kvs:List (Key×V)} {k:Key} {u:Value} {A:Around} {E:Value->Shared->Prop}
theorem NO (I:Inv X pins σ H s) (e:Rd H a (.dK kvs)) (h:∀ t s',Inv X pins σ H s'->Q (.int kvs.length t) s'):wpAny (model X.prog X.w) A (call (.builtin "len") [.ref a]) Q E s:=by
 obtain ⟨z,hd,vs,rel,dd⟩:=qd I.bt e
 refine call_len_dict hd dd (by rw [←rel.length]; rw [sizeLine_eq] at z; omega) ?_
 rw [←rel.length]
 exact h _ _ (I.tok _)
end
def FJ (i:Expr):Prop:=∀ ov iv,subscripted i false ov iv = operate [ov,iv] (getItem ov iv)
theorem Ah {prog:Program} {w:World} {A:Around} {E:Value->Shared->Prop} {s:Shared} {env:Env} {value slice:Expr} {pos:Pos} {T id:String} {Q:Value->Shared->Prop}
  (hl:typeLookup (.type T) "__getitem__" = pure (some (.builtin id))) (hs:FJ slice)
  (h:wpAny (model prog w) A (eval value env) (λo s₁=>wpAny (model prog w) A (eval slice env) (λi s₂=>s₂.TypeIs o T/\wpAny (model prog w) A (getItem o i) Q E s₂) E s₁) E s):
  wpAny (model prog w) A (eval (.Subscript value slice pos) env) Q E s:=by
 refine Subscript_ (wpAny_mono h (λo s₁ h₁=>wpAny_mono h₁ (λi s₂ h₂=>?_) λ_ _ x=>x) λ_ _ x=>x)
 obtain ⟨hT,h₂⟩:=h₂
 unfold subscriptTail
 refine wpAny_bind ?_
 rw [getitemInPython_of_ne hT.not_modules]
 refine wpAny_bind (wpAny_specialOf hT hl ?_)
 have fin:wpAny (model prog w) A (subscripted slice false o i) (λr s₃=>wpAny (model prog w) A (letTemporaryGo value o r >>= λ_=>pure r) Q E s₃) E s₂:=by
  rw [hs o i]
  exact wpAny_operating (wpAny_mono h₂ (λr s₃ h₃=>wpAny_bind (wpAny_letTemporaryGo (wpAny_pure h₃))) λ_ _ x=>x)
 first
  | exact wpAny_pure (wpAny_bind fin)
  | exact wpAny_bind (wpAny_pure (wpAny_bind fin))
  | exact wpAny_bind fin
theorem zY (I:Inv X pins σ H s) (g:pD H a y o):s.TypeIs (.ref a) "dict":=by
 obtain ⟨kvs,k,e,_,_⟩:=g
 obtain ⟨_,_,vs,_,dd⟩:=qd I.bt e
 exact dd.typeIs
def Nd (td ty:TE):TE:=λσ H Q=>td σ H λx H1=>ty σ H1 λy H2=>∃ a v,x = .ref a/\pD H2 a y (some v)/\Q v H2
def OH (ty td:TE):TE:=λσ H Q=>ty σ H λy H1=>td σ H1 λx H2=>∃ a o,x = .ref a/\pD H2 a y o/\Q (.bl o.isSome) H2
def IF (ty td:TE):TE:=λσ H Q=>ty σ H λy H1=>td σ H1 λx H2=>∃ a o,x = .ref a/\pD H2 a y o/\Q (.bl (!o.isSome)) H2
def N5 (td ty tv:TE):TS:=λD σ H=>tv σ H λv H1=>td σ H1 λx H2=>ty σ H2 λy H3=>∃ a H4,x = .ref a/\KZ H3 a y v H4/\D.nx σ H4
section
variable {X:Cx} {o i e value:Expr} {pos pos' tpos:Pos} {td ty tv:TE}
theorem J5 (hu:X.A.units+1 < cLine) (ho:PE X o td) (hi:PE X i ty) (hs:FJ i):PE X (.Subscript o i pos) (Nd td ty):=by
 intro pins s σ H Q I h
 refine Ah PySem.F.slot_dict_getitem.lookup hs (aW (ho pins s σ H _ I h) λu s1 ⟨x,H1,I1,rx,q1⟩=>aW (hi pins s1 σ H1 _ I1 q1) λiv s2 ⟨y,H2,I2,ry,a,v,ex,g,q2⟩=>?_)
 subst ex
 obtain rfl:u = Value.ref a:=rx
 exact ⟨zY I2 g,D7 hu I2 g ry λw' s3 I3 rw'=>⟨v,H2,I3,rw',q2⟩⟩
theorem K5 (hu:X.A.units+1 < cLine) (hi:PE X i ty) (ho:PE X o td):PC X .In i o (OH ty td):=by
 intro pins s σ H Q I h
 refine aW (hi pins s σ H _ I h) λiv s1 ⟨y,H1,I1,ry,q1⟩=>aW (ho pins s1 σ H1 _ I1 q1) λu s2 ⟨x,H2,I2,rx,a,ov,ex,g,q2⟩=>?_
 subst ex
 obtain rfl:u = Value.ref a:=rx
 exact OV hu I2 g ry λs3 I3=>⟨.bl ov.isSome,H2,I3,rfl,q2⟩
theorem vC (hu:X.A.units+1 < cLine) (hi:PE X i ty) (ho:PE X o td):PC X .NotIn i o (IF ty td):=by
 intro pins s σ H Q I h
 refine aW (hi pins s σ H _ I h) λiv s1 ⟨y,H1,I1,ry,q1⟩=>aW (ho pins s1 σ H1 _ I1 q1) λu s2 ⟨x,H2,I2,rx,a,ov,ex,g,q2⟩=>?_
 subst ex
 obtain rfl:u = Value.ref a:=rx
 exact Jr hu I2 g ry λs3 I3=>⟨.bl (!ov.isSome),H2,I3,rfl,q2⟩
theorem Il (hu:X.A.units+1 < cLine) (ho:PE X o td) (hi:PE X i ty) (hv:PE X value tv) (hs:swapsWith value (some (.Subscript o i pos')) pos.line X.env = pure false):
  PS X (.Assign [.Subscript o i pos'] value pos) (N5 td ty tv):=by
 intro pins s σ H D I h
 refine wpAny_Assign_Subscript (aW (hv pins s σ H _ I h) λr s1 ⟨v,H1,I1,rv,q1⟩=>aW (ho pins s1 σ H1 _ I1 q1) λu s2 ⟨x,H2,I2,rx,q2⟩=>aW (hi pins s2 σ H2 _ I2 q2) λiv s3 ⟨y,H3,I3,ry,a,H4,ex,g,q3⟩=>?_) hs
 subst ex
 obtain rfl:u = Value.ref a:=rx
 exact DD hu I3 g ry rv λs4 I4=>⟨σ,H4,I4,q3⟩
end
theorem G2 (h:Heap) (hb:sysModules < h.objs.size):dD P w H (h.push { cls:=.type "dict",data:=.dict #[] }) h.objs.size (.dK []):=
 ⟨Nat.zero_le _,beq_eq_false_iff_ne.mpr (Ne.symm (Nat.ne_of_lt hb)),[],.nil,Heap.DictOf.new h⟩
def Ly:TE:=λ_ H Q=>∀ p,H p = none->Q (.ref p) (upd H p (.dK []))
section
variable {X:Cx} {pos:Pos}
theorem FD:PE X (.Dict [] [] pos) Ly:=λpins s σ H Q I h=>
 wpAny_Dict_empty ⟨.ref s.heap.objs.size,_,I.laid (a:=s.heap.objs.size) (o:=.dK []) (t':=s.toks) (λ_ _ q=>Heap.get?_push_of_some _ q) (Nat.le_refl _) (G2 s.heap I.big),rfl,h _ (I.bt.fresh (Nat.le_refl _))⟩
end
section
variable {X:Cx} {pins:List (Addr×Obj)} {σ:St} {H:Hp} {s:Shared} {a:Addr} {y d:V} {u r:Value} {o:Option V} {A:Around} {E:Value->Shared->Prop}
end
section
variable {X:Cx} {o e f:Expr} {apos cpos:Pos} {td ty tx:TE}
end
section
variable {X:Cx} {pins:List (Addr×Obj)} {σ:St} {H:Hp} {s:Shared} {a:Addr} {kvs:List (Key×V)} {A:Around} {E:Value->Shared->Prop}
end
section
variable {X:Cx} {pins:List (Addr×Obj)} {σ:St} {H:Hp} {s:Shared} {a:Addr} {y:V} {u:Value} {A:Around} {E:Value->Shared->Prop}
end
end L2
namespace Att
open PySem PySem.W PySem.Calls PyProof.Rows
theorem sO {P:Params} {h:Heap}:∀ (ns:List Int) (vs:List Value),WellAll P h vs (ns.map WData.int)->IntsAre vs ns:=by
 intro ns
 induction ns with
 | nil=>
   intro vs w
   rw [List.map_nil] at w
   cases w
   exact .nil
 | cons n ns ih=>
   intro vs w
   rw [List.map_cons] at w
   cases w with
   | cons a b=>
     cases a
     exact .cons _ _ (ih _ b)
theorem Ds {l:OpenLaw} {n:Nat} (hn:l.most = some n) {P:Params} {h:Heap} {args:List WData} {vals:List Value}
  (hpre:l.row.toRowW.claim.pre args = true) (hwl:WellAll P h vals args):
  ∃ a vs ns,vals = [Value.ref a]/\args = [WData.list (ns.map WData.int)]/\h.get? a = some { cls:=.type "list",data:=.seq vs.toArray }/\IntsAre vs ns/\ns.length<=n:=by
 have hsh:WShape.hasAll [] args [.list .int] = true:=(pre_splitW hpre).1
 have hc:l.pre.holds [] { args:=args } = true:=(pre_splitW hpre).2
 obtain ⟨d,r,rfl,h1,h2⟩:=hasAllW_cons hsh
 obtain rfl:=hasAllW_nil h2
 obtain ⟨xs,rfl,h3⟩:=hasW_list h1
 obtain ⟨ns,rfl⟩:=items_int h3
 have hlen:ns.length<=n:=by
  unfold OpenLaw.pre at hc
  have h4:(WTm.not (.lt (.lit (.int (n:Int))) (.len (.arg 0)))).holds [] { args:=[.list (ns.map .int)] } = true:=by
   have h4:=(holds_andW hc).1
   rw [hn] at h4
   exact h4
  have h5:=condW_of h4 (w_not (w_lt w_lit (w_len_list (w_arg rfl))))
  rw [List.length_map] at h5
  refine Nat.le_of_not_lt λq=>?_
  have q':(n:Int) < ((ns.length:Nat):Int):=by omega
  first
   | (rw [decide_eq_true q'] at h5; exact absurd h5 (by decide))
   | (simp at h5; omega)
 cases hwl with
 | cons w1 w2=>
   cases w2
   cases w1 with
   | list ho hall=>exact ⟨_,_,ns,rfl,rfl,ho,sO ns _ hall,hlen⟩
theorem EC (l:OpenLaw) (args:List WData):l.row.toRowW.claim.post args (.bool true) args = true:=
 postW_of (r:=l.row.toRowW) (X:=(true == true))
  (show WShape.has [] (.bool true) .bool = true by first | rfl | decide | simp [WShape.has,WShape.arms,WShape.armsAll])
  (show (WTm.eq .res (.lit (.bool true))).value [] { args:=args,res:=some (.bool true),after:=args } = some (.bool (true == true)) from w_eq_bool (w_res rfl) w_lit) rfl
theorem zO {l:OpenLaw} {n:Nat} {q:Program} {loose:List Str} {XP:(Str->Option Value)->Heap->Prop} {YP:World->Heap->Prop} {d:DefRec}
  (hn:l.most = some n) (hdf:d.params.defaults = [])
  (call:∀ (w:World) (s₀ s₁:Shared) (mg mb:Str->Option Value) (fa:Addr) (o:Obj) (pm cd doc:Value) (a:Addr) (vs:List Value) (ns:List Int),
   Ground q loose [] XP w s₀ mg mb s₁.heap->YP w s₁.heap->
   s₁.heap.get? fa = some o->o.data = .func (docDef d.name d.params d.body d.scope pm cd doc)->s₁.heap.CodeRec cd d.name->mg d.name = some (.ref fa)->
   s₁.heap.get? a = some { cls:=.type "list",data:=.seq vs.toArray }->IntsAre vs ns->ns.length<=n->s₁.gens = #[]->
   codeAny (model l.prog w) callerA (.call (.ref fa) ⟨[.ref a],[]⟩) (λr s'=>r = .ok (.ret (.bool true))/\OldK s₁.heap s'.heap/\s'.os = s₁.os/\AllBare s'.gens) s₁):
  WalkO q loose XP YP l.row.toRowW d [] (λf vs=>PySem.call f vs):=by
 intro w s₀ s₁ mg mb G Y fa o pm cd doc dV kV ho hd hcd hD hmg hg args vals as hpre hlay hrd hwl hlo
 obtain rfl:dV = .none:=Dflts.none hD hdf
 obtain rfl:kV = .none:=Dflts.noKw hD
 obtain ⟨a,vs,ns,rfl,rfl,hobj,hints,hlen⟩:=Ds hn hpre hwl
 refine enter_call (codeAny_mono (call w s₀ s₁ mg mb fa o pm cd doc a vs ns G Y ho (fd_plain hd) hcd hmg hobj hints hlen hg) λr s' hq=>?_)
 obtain ⟨rfl,h2,h3,h4⟩:=hq
 exact ⟨.inl ⟨.bool true,.bool true,[],rfl,λ_=>rfl,.bool true,EC l _,λ_=>⟨List.Pairwise.nil,λ_ hm=>(nomatch hm)⟩⟩,h2,h3,h4⟩
section
variable {prog:Program} {w:World} {A:Around} {E:Value->Shared->Prop} {s:Shared} {K:Frag}
end
end Att
namespace L2
open PySem PySem.Spec PyProof.Rows
theorem vS:∀ {vs:List Value} {ns:List Int},IntsAre vs ns->Vals (ns.map V.int) vs
 | _,_,.nil=>.nil
 | _,_,.cons n t h=>.cons ⟨t,rfl⟩ (vS h)
def BA (H:Hp):Prop:=∀ b,H b = none\/∃ o xs,H b = some (.dt o (.lst xs))
theorem Fx {P:Program} {w:World} {K:W.Frag} {mg mb:Str->Option Value} {CX:jd} {k:Nat} {fa a:Addr} {fd:FuncData} {x:Str} {sp:Sp} {s₁:Shared} {vs:List Value} {ns:List Int}
  (KX:K.In s₁.heap) (hns:s₁.heap.Ns mainGlobals mg) (hb:s₁.heap.Ns builtinsNs mb) (hbb:∀ x:Str,x≠"__name__"->mb x = bootBuiltins x) (hlim:s₁.heap.NoLimit) (hg:s₁.gens = #[])
  (ha:s₁.heap.get? a = some { cls:=.type "list",data:=.seq vs.toArray }) (hi:IntsAre vs ns) (hl:ns.length<=sizeLine) (hr:bI k callerA)
  (F:∀ base:Heap,K.In base->base.Ns mainGlobals mg->dG P w K mg base CX k fa fd [x] sp) (hbind:∀ (s:Shared) (u:Value),BindsTo s fd ⟨[u],[]⟩ [(x,u)])
  (hsp:∀ H:Hp,BA H->cR K H a (ns.map V.int)->sp [.ref a] H (λv _=>v = .bl true) λ_ _ _=>False)
  (hCX:∀ H e s',CX [] H s₁ (λ_ _ _=>False) e s'->False):
  codeAny (model P w) callerA (.call (.ref fa) ⟨[.ref a],[]⟩) (λr s'=>r = .ok (.ret (.bool true))/\OldK s₁.heap s'.heap/\s'.os = s₁.os/\AllBare s'.gens) s₁:=by
 have rv:=vS hi
 have lenV:=hi.length
 have core:∀ H:Hp,BA H->cR K H a (ns.map V.int)->eX P w H s₁.heap->(∀ b,H b≠none->b = a)->(H a≠none->K.lookup a = none)->
   codeAny (model P w) callerA (.call (.ref fa) ⟨[.ref a],[]⟩) (λr s'=>r = .ok (.ret (.bool true))/\OldK s₁.heap s'.heap/\s'.os = s₁.os/\AllBare s'.gens) s₁:=by
  intro H hO hS bt hA hK
  have base_of:∀ {b:Addr} {o:Obj},s₁.heap.get? b = some o->H b = none->(nA s₁.heap H).get? b = some o:=λe n=>Gx e n
  have noA:∀ {b:Addr} {o:Obj} {es:Array DictEntry} {ep:Nat},s₁.heap.get? b = some o->o.data = .dict es ep->H b = none:=λ{b o es ep} e d=>by
   cases q:H b with
   | none=>rfl
   | some u=>
     have e':b = a:=hA b (by rw [q]; simp)
     subst e'
     rw [ha] at e; cases e
     have d':Data.seq vs.toArray _ = Data.dict es ep:=d
     cases d'
  have nsK:∀ {b:Addr} {m:Str->Option Value},s₁.heap.Ns b m->(nA s₁.heap H).Ns b m:=λ{b m} ⟨o,es,ep,e,d,r⟩=>⟨o,es,ep,base_of e (noA e d),d,r⟩
  have hKb:K.In (nA s₁.heap H):=λb o e=>base_of (KX b o e) (by
   cases q:H b with
   | none=>rfl
   | some u=>
     have e':b = a:=hA b (by rw [q]; simp)
     subst e'
     rw [hK (by rw [q]; simp)] at e; cases e)
  have hM:Mod K mg (nA s₁.heap H):=⟨hKb,nsK hns,⟨mb,nsK hb,hbb⟩,let ⟨mc,h1,h2⟩:=hlim; ⟨mc,nsK h1,h2⟩⟩
  have e0:rP P w K mg (nA s₁.heap H) callerA [] s₁ H:=⟨rfl,hM,λb o e=>Jw e,Nat.le_of_eq (Fb _ _),trivial,λb hb=>absurd (show b∈([]:List Addr) from hb) (by simp),bt,.of_eq hg⟩
  refine codeAny_mono ((F _ hKb (nsK hns)).run callerA [] s₁ H ⟨[.ref a],[]⟩ [.ref a] [.ref a] _ _ hr e0 (hbind s₁ (.ref a)) (.cons rfl .nil) (hsp H hO hS)) λr s' h=>?_
  cases r with
  | error e=>exact (hCX H e s' h).elim
  | ok fl=>
    cases fl with
    | next=>exact False.elim h
    | brk=>exact False.elim h
    | cont=>exact False.elim h
    | ret u=>
      obtain ⟨v,H',os,bare,un,hok',r',q⟩:=h
      have q':v = .bl true:=q
      subst q'
      obtain rfl:u = Value.bool true:=r'
      refine ⟨rfl,OldK.of_keep λb o e=>?_,os,bare⟩
      cases q:H b with
      | none=>exact un.keep b o e q (by intro z; exact absurd (show b∈([]:List Addr) from z) (by simp)) (by simp)
      | some u=>
        rcases hO b with z | ⟨ob,xs,z⟩
        ·rw [q] at z; cases z
        ·have z2:=un.gC b ob _ z
         obtain ⟨e1,_⟩:=bt b _ z
         obtain ⟨e2,_⟩:=hok' b _ z2
         rw [e] at e1; cases e1
         exact e2
 cases hk:K.lookup a with
 | some o=>
   have e:=KX a o hk
   rw [ha] at e
   cases e
   refine core (λ_=>none) (λ_=>.inl rfl) (.inr ⟨_,vs.toArray,_,hk,rfl,rfl,rfl,by rw [List.size_toArray,lenV]; exact hl,by simpa using rv⟩) (λb u z=>by have z':(none:Option HO) = some u:=z; cases z') (λb z=>absurd rfl z) λz=>absurd rfl z
 | none=>
   refine core (λb=>if b = a then some (.dt { cls:=.type "list",data:=.seq vs.toArray } (.lst (ns.map V.int))) else none) (λb=>?_) (.inl (.inr ⟨{ cls:=.type "list",data:=.seq vs.toArray },if_pos rfl⟩)) (λb u z=>?_) (λb z=>?_) λ_=>hk
   ·by_cases hb:b = a
    ·exact .inr ⟨_,_,if_pos hb⟩
    ·exact .inl (if_neg hb)
   ·by_cases hb:b = a
    ·have z':=(if_pos hb).symm.trans z
     cases z'
     subst hb
     exact ⟨ha,by rw [List.length_map]; exact hl,vs,_,rv,ha⟩
    ·have z':=(if_neg hb).symm.trans z
     cases z'
   ·by_cases hb:b = a
    ·exact hb
    ·exact absurd (if_neg hb) z
end L2
namespace L2
open PySem PySem.Spec PyProof.Rows
abbrev Oq {K:W.Frag} {h:Heap} (_:K.In h):W.Frag:=K
theorem Iw {l:PySem.W.OpenLaw} {n k:Nat} {q:Program} {loose:List Str} {XP:(Str->Option Value)->Heap->Prop} {YP:World->Heap->Prop} {d:DefRec} {K:Params->W.Frag} {CX:World->jd} {sp:World->Sp} {x:Str}
  (hn:l.most = some n) (hn2:n<=sizeLine) (hdf:d.params.defaults = []) (hr:bI k callerA)
  (hY:∀ (w:World) (h:Heap),YP w h->(K w.params).In h)
  (F:∀ (w:World) (mg:Str->Option Value) (fa:Addr) (h:Heap),(K w.params).In h->h.Ns mainGlobals mg->mg d.name = some (.ref fa)->
   ∃ fd:FuncData,(∀ (s:Shared) (u:Value),BindsTo s fd ⟨[u],[]⟩ [(x,u)])/\
     ∀ base:Heap,(K w.params).In base->base.Ns mainGlobals mg->dG l.prog w (K w.params) mg base (CX w) k fa fd [x] (sp w))
  (hsp:∀ (w:World) (H:Hp) (a:Addr) (ns:List Int),ns.length<=n->BA H->cR (K w.params) H a (ns.map V.int)->sp w [.ref a] H (λv _=>v = .bl true) λ_ _ _=>False)
  (hCX:∀ (w:World) (H:Hp) (s:Shared) (e:Value) (s':Shared),CX w [] H s (λ_ _ _=>False) e s'->False):
  PySem.W.WalkO q loose XP YP l.row.toRowW d [] (λf vs=>PySem.call f vs):=by
 refine Att.zO hn hdf λw s₀ s₁ mg mb fa o pm cd doc a vs ns G Y ho hd hcd hmg hobj hints hlen hg=>?_
 have KX:=hY w _ Y
 obtain ⟨fd,hb,hF⟩:=F w mg fa _ KX G.T.g hmg
 exact Fx KX G.T.g G.T.b G.T.builtins G.T.nolimit hg hobj hints (Nat.le_trans hlen hn2) hr hF hb (λH hO hS=>hsp w H a ns hlen hO hS) λH e s'=>hCX w H s₁ e s'
end L2
namespace L2
open PySem PySem.Spec PyProof.Rows
def gP (s:Stmt):Arguments:=match s with
 | .FunctionDef _ a _ _ _ _ _ _ _ _=>a
 | _=>{ posonlyargs:=[],args:=[],vararg:=none,kwonlyargs:=[],kw_defaults:=[],kwarg:=none,defaults:=[] }
def c9 (s:Stmt):List Stmt:=match s with
 | .FunctionDef _ _ b _ _ _ _ _ _ _=>b
 | _=>[]
def ah (s:Stmt):Scope:=match s with
 | .FunctionDef _ _ _ _ _ _ sc _ _ _=>sc
 | _=>{ kind:=.function,names:=[],isGenerator:=false,isCoroutine:=false }
abbrev tO:jd:=λ_ _ _ _ _ _=>False
abbrev E0:XK:=λ_ _ _=>False
theorem Nx:Passes tO X E0:=λ_ _ _ _ _ _ _ h=>h.elim
structure qI (K:W.Frag) (x qual:Str) (st:Stmt) (f:Addr) (fd:FuncData):Prop where
 ex:∃ (oc:Value) (od:Option Addr) (kV doc pm:Value) (an:Option Addr) (cdv ct:Value) (osl:Array (Option Value)),
  fd = PySem.W.fnOf x qual (gP st) (c9 st) (ah st) .none kV doc pm an cdv ct/\K.lookup f = some ⟨oc,od,.func fd,osl⟩/\PySem.W.codeIn K cdv qual = true
 kp:PySem.W.keepIn K (.ref f) = true
section
variable {P:Program} {w:World} {K:W.Frag} {mg:Str->Option Value} {base:Heap}
theorem zd {x qual:Str} {st:Stmt} {f:Addr} {oc:Value} {od an:Option Addr} {osl:Array (Option Value)} {kV doc pm cdv ct:Value} (l:K.lookup f = some ⟨oc,od,.func (PySem.W.fnOf x qual (gP st) (c9 st) (ah st) .none kV doc pm an cdv ct),osl⟩)
  (c:PySem.W.codeIn K cdv qual = true) (k:PySem.W.keepIn K (.ref f) = true):qI K x qual st f (PySem.W.fnOf x qual (gP st) (c9 st) (ah st) .none kV doc pm an cdv ct):=⟨⟨oc,od,kV,doc,pm,an,cdv,ct,osl,rfl,l,c⟩,k⟩
end
theorem tM (hr:bI k A):A.units+1 < cLine:=Nat.lt_of_le_of_lt (Nat.add_le_add_left (by decide:1<=64) _) hr.units
section
variable {X:Cx}
end
theorem Bs {A B:Prop} (h:B):if false = true then A else B:=by
 rw [if_neg Bool.false_ne_true]
 exact h
theorem Bq {A B:Prop} (h:A):if true = true then A else B:=by
 rw [if_pos rfl]
 exact h
def aK (H H':Hp):Prop:=∀ b o,H b = some o->H' b = some o
theorem aK.refl (H:Hp):aK H H:=λ_ _ h=>h
theorem aK.trans (a:aK H H1) (b:aK H1 H2):aK H H2:=λc o h=>b c o (a c o h)
theorem aK.free (e:aK H H') (h:H' l = Option.none):H l = Option.none:=by
 cases q:H l with
 | none=>rfl
 | some o=>
   rw [e l o q] at h
   cases h
end L2
namespace L2
open PySem PySem.Spec PyProof.Rows
section
variable {X:Cx}
theorem C3:cq X (.builtin "len") (λxs H Q=>∃ a kvs,xs = [V.ref a]/\H a = some (.dK kvs)/\Q (.int kvs.length) H):=by
 intro pins s σ H xs us Q I r h
 obtain ⟨a,kvs,rfl,ha,q⟩:=h
 obtain ⟨u,rfl,ru⟩:=vals1 r
 cases ru
 exact NO I (.inl ha) λt s' I'=>⟨.int kvs.length,H,I',⟨t,rfl⟩,q⟩
end
section
variable {κ:Type} [DecidableEq κ]
end
end L2
end
section
namespace L2
open PySem PySem.Spec PyProof.Rows
section
theorem E3:b4 X (compareOp .LtE) (λx y H Q=>∃ i j,x = .str i/\y = .str j/\Q (.bl (!decide (j.cps.toList < i.cps.toList))) H):=by
 intro pins s σ H x y v u Q I rx ry h
 obtain ⟨i,j,rfl,rfl,q⟩:=h
 obtain ⟨t,rfl⟩:=rx
 obtain ⟨t',rfl⟩:=ry
 exact PySem.P.le_str (bL I q rfl)
def Cd (x:Str):List Nat:=x.cps.toList
def ao (l:List Nat):Str:=⟨l.toArray⟩
theorem iA (l:List Nat):Cd (ao l) = l:=rfl
theorem zj (h:Cd x = Cd y):x = y:=by
 cases x; cases y
 congr 1
 exact Array.toList_inj.mp h
theorem M1 (x y:Str):Cd (x++y) = Cd x++Cd y:=by
 show (x.cps++y.cps).toList = _
 simp [Cd]
theorem kY (a b:List Nat):ao a++ao b = ao (a++b):=zj (by rw [M1,iA,iA,iA])
theorem fw (a:List Nat):(ao a).length = a.length:=rfl
theorem nk:ao a = ao b↔a = b:=⟨λh=>by rw [←iA a,h,iA],λh=>by rw [h]⟩
def nR (l:List Nat) (lo hi:Option Int):List Nat:=(l.drop (HT.bD l.length 0 lo)).take (HT.bD l.length l.length hi - HT.bD l.length 0 lo)
theorem zJ (l:List Nat) (lo hi:Option Int):(nR l lo hi).length<=l.length:=by
 unfold nR
 rw [List.length_take,List.length_drop]
 omega
theorem nF (v:Int) (n d:Nat):max 0 (min (if v < 0 then v+ (n:Int) else v) (n:Int)) = ((HT.bD n d (some v):Nat):Int):=by
 show max 0 (min (if v < 0 then v+ (n:Int) else v) (n:Int)) = (((if v < 0 then (v+ (n:Int)).toNat else min v.toNat n):Nat):Int)
 by_cases hv:v < 0
 ·simp only [if_pos hv]; omega
 ·simp only [if_neg hv]; omega
theorem ko (lo hi:Option Int) (n:Nat):Builtin.Str.strSliceIndices lo hi 1 n = (List.range (HT.bD n n hi - HT.bD n 0 lo)).map (λk=>HT.bD n 0 lo+k):=by
 have key:∀ a b:Nat,sliceRange (a:Int) (b:Int) 1 = (List.range (b - a)).map (λk=>a+k):=by
  intro a b
  simp only [sliceRange,show ((1:Int) > 0) = True from by simp,if_true]
  by_cases hlt:(a:Int) < b
  ·have e3:(((b:Int) - a+1 - 1) / 1).toNat = b - a:=by
    rw [Int.ediv_one]; omega
   simp only [hlt,if_true,e3]
   refine List.map_congr_left λk _=>?_
   omega
  ·have:b - a = 0:=by omega
   simp [hlt,this]
 rw [←key]
 simp only [Builtin.Str.strSliceIndices,show ((1:Int) > 0) = True from by simp,if_true]
 cases lo with
 | none=>
   cases hi with
   | none=>rfl
   | some v=>show sliceRange 0 (max 0 (min (if v < 0 then v+ (n:Int) else v) (n:Int))) 1 = sliceRange ((0:Nat):Int) _ 1; rw [nF v n n]; rfl
 | some u=>
   cases hi with
   | none=>show sliceRange (max 0 (min (if u < 0 then u+ (n:Int) else u) (n:Int))) (n:Int) 1 = sliceRange _ ((n:Nat):Int) 1; rw [nF u n 0]
   | some v=>show sliceRange (max 0 (min (if u < 0 then u+ (n:Int) else u) (n:Int))) (max 0 (min (if v < 0 then v+ (n:Int) else v) (n:Int))) 1 = _; rw [nF u n 0,nF v n n]
theorem Dq (x:Str) (lo hi:Option Int):Txt.slice x lo hi = ao (nR (Cd x) lo hi):=by
 have hl:x.length = (Cd x).length:=rfl
 have hj:HT.bD x.length x.length hi<=x.length:=HT.Dz _ _ (Nat.le_refl _) hi
 have pk:(Builtin.Str.strSliceIndices lo hi 1 x.length).filterMap (x.cps[·]?) = nR (Cd x) lo hi:=by
  rw [ko]
  unfold nR
  rw [←hl]
  by_cases hh:HT.bD x.length 0 lo<=HT.bD x.length x.length hi
  ·have h:=PySem.StrLaws.picks x.cps.toList (HT.bD x.length x.length hi - HT.bD x.length 0 lo) (HT.bD x.length 0 lo) (by
    have:x.cps.toList.length = x.length:=rfl
    rw [this]; omega)
   simpa [Cd] using h
  ·have e:HT.bD x.length x.length hi - HT.bD x.length 0 lo = 0:=by omega
   rw [e]; simp
 apply zj
 unfold Txt.slice
 rw [pk]
 by_cases hc:((1:Int) == 1 && (Builtin.Str.strSliceIndices lo hi 1 x.length).length == x.length) = true
 ·rw [if_pos hc,iA]
  have e:(Builtin.Str.strSliceIndices lo hi 1 x.length).length = x.length:=by simpa using hc
  rw [ko,List.length_map,List.length_range] at e
  unfold nR
  rw [←hl]
  by_cases hz:x.length = 0
  ·have:Cd x = []:=List.eq_nil_of_length_eq_zero (by rw [←hl]; exact hz)
   simp [this]
  ·have e0:HT.bD x.length 0 lo = 0:=by omega
   have e1:HT.bD x.length x.length hi = x.length:=by omega
   rw [e0,e1,List.drop_zero,Nat.sub_zero,List.take_of_length_le (by rw [←hl]; exact Nat.le_refl _)]
 ·rw [if_neg hc]
  rfl
def OC:V->Option Int->Option Int->Hp->VK->Prop:=λx lo hi H Q=>∃ z,x = .str z/\z.length<=sizeLine/\Q (.str (ao (nR (Cd z) lo hi))) H
theorem Mz:mF X OC:=by
 intro pins s σ H x v vl vu lo hi sl Q I rx hs pl pu h
 obtain ⟨z,rfl,hz,q⟩:=h
 obtain ⟨t,rfl⟩:=rx
 refine ⟨"str",_,F.slot_str_getitem.lookup,typeIs_str _ _ _,?_⟩
 have go:∀ l u:Option (Int×Tok),s.heap.IsSlice sl l u none->l.map (·.1) = lo->u.map (·.1) = hi->wpAny (model X.prog X.w) X.A (getItem (.str z t) (.ref sl)) (EP X pins σ Q) X.xe s:=by
  intro l u h1 e1 e2
  refine wpAny_getItem_str_slice (l:=l) (u:=u) (st:=none) h1 rfl ?_
  have e:(sliceMade z t l u none) = (if ((1:Int) == 1 && (Builtin.Str.strSliceIndices lo hi 1 z.length).length == z.length) = true then Made.val (.str z t) else Made.str ⟨((Builtin.Str.strSliceIndices lo hi 1 z.length).filterMap (z.cps[·]?)).toArray⟩):=by
   rw [←e1,←e2]; rfl
  rw [e]
  refine post_val_or_str ⟨Nat.le_trans (Txt.slice_le z lo hi) hz,λt' k=>?_⟩
  have e3:=Dq z lo hi
  unfold Txt.slice at e3
  rw [e3]
  exact ⟨.str _,H,I.tok _,⟨_,rfl⟩,q⟩
 cases pl with
 | none=>
   cases pu with
   | none=>exact go none none hs rfl rfl
   | int j tj=>exact go none (some (j,tj)) hs rfl rfl
 | int i ti=>
   cases pu with
   | none=>exact go (some (i,ti)) none hs rfl rfl
   | int j tj=>exact go (some (i,ti)) (some (j,tj)) hs rfl rfl
def Fe (x:Str):It:=
 ⟨λi _=>i < (Cd x).length,λi H v H'=>H' = H/\∃ c,(Cd x)[i]? = some c/\v = .str (ao [c]),λi _=>(Cd x).length<=i⟩
theorem G1 {P:Program} {w:World} {K:W.Frag} {tg:Expr} (it:Addr) (x:Str) (t:Tok) (ty:String) (hty:ty = "str_ascii_iterator"\/ty = "str_iterator"):
  Turn P w K tg (Fe x) [it] it (λi h=>h.IsStrIter it ty x t i) where
 mem:=by simp
 obj:=λi h st b hb=>by
  have e:b = it:=by simpa using hb
  subst e
  obtain ⟨o,e,c,d⟩:=st
  exact ⟨o,e,λv z=>by rw [d] at z; cases z⟩
 keep:=λi h h' st k=>let ⟨o,e,c,d⟩:=st; ⟨o,k it (by simp) o e,c,d⟩
 item:=by
  intro X hP hw hK hc i pins s σ H E I hf st hg
  subst hP hw hK
  obtain ⟨f0,f1,f2,f3,f4,f5⟩:=hf it (by simp)
  have hi:i < x.cps.size:=hg
  have hx:x.cps[i]? = some x.cps[i]:=by simp [hi]
  have fin:∀ h',h'.IsStrIter it ty x t (i+1)->Heap.SameBut it s.heap h'->∃ u,some (Value.str ⟨#[x.cps[i]]⟩ s.toks) = some u/\
    wpAny (model X.prog X.w) X.A (letOwnedTupleGo tg (.ref it) u) (λ_ s2=>∃ y H',Inv X pins σ H' s2/\RelV y u/\(Fe x).AR i H y H'/\s2.heap.IsStrIter it ty x t (i+1)/\∀ b∈[it],H' b = none) E { s with heap:=h',toks:=s.toks+1 }:=by
   intro h' st' sb
   have I1:Inv X pins σ H { s with heap:=h',toks:=s.toks+1 }:=I.turned (λb o hb e=>(sb.2 b hb).trans e) f0 f1 f3 f4 f5
   obtain ⟨o,e,c,d⟩:=id st'
   refine ⟨_,rfl,wC (s:={ s with heap:=h',toks:=s.toks+1 }) e c d ?_ ⟨.str (ao [x.cps[i]]),H,I1,⟨_,rfl⟩,⟨rfl,x.cps[i],?_,rfl⟩,st',λb hb=>(hf b hb).1⟩⟩
   ·rcases hty with e | e <;> subst e <;> decide
   ·simp [Cd,hi]
  rcases hty with e | e
  ·subst e
   exact wpAny_pyNext_ascii_item st hx λh' st' sb=>fin h' st' sb
  ·subst e
   exact wpAny_pyNext_wide_item st hx λh' st' sb=>fin h' st' sb
 done:=by
  intro X hP hw hK hc i pins s σ H E I hf st hg
  subst hP hw hK
  obtain ⟨f0,f1,f2,f3,f4,f5⟩:=hf it (by simp)
  have hi:x.cps.size<=i:=hg
  rcases hty with e | e
  ·subst e
   exact wpAny_pyNext_ascii_end (I.ok.hd hc) st (by simp [hi]) λh' eb=>⟨rfl,I.turned (t':=s.toks) (λb o hb e=>eb b o hb e) f0 f1 f3 f4 f5⟩
  ·subst e
   exact wpAny_pyNext_wide_end (I.ok.hd hc) st (by simp [hi]) λh' eb=>⟨rfl,I.turned (t':=s.toks) (λb o hb e=>eb b o hb e) f0 f1 f3 f4 f5⟩
 self:=λ_ _ _ _ _ st h=>by
  rcases hty with e | e
  ·subst e; exact wpAny_pyIter_striter_ascii st h
  ·subst e; exact wpAny_pyIter_striter_wide st h
theorem yx {bs:List Bool}:∀ {us:List Value},Vals (bs.map V.bl) us->us = bs.map Value.bool:=by
 induction bs with
 | nil=>intro us r; cases r; rfl
 | cons b r ih=>
   intro us h
   rw [List.map_cons] at h
   cases h with
   | cons h1 h2=>
     have e:_ = Value.bool b:=h1
     rw [e,ih h2]; rfl
theorem all_range (bs:List Bool):((List.range bs.length).all λi=>bs.getD i true) = bs.all id:=by
 rw [Bool.eq_iff_iff,List.all_eq_true,List.all_eq_true]
 constructor
 ·intro h b hb
  obtain ⟨i,hi,e⟩:=List.getElem_of_mem hb
  have:=h i (by simpa using hi)
  simpa [List.getD,hi,e] using this
 ·intro h i hi
  have hi:i < bs.length:=by simpa using hi
  have:=h bs[i] (List.getElem_mem hi)
  simpa [List.getD,hi] using this
theorem any_range (bs:List Bool):((List.range bs.length).any λi=>bs.getD i true) = bs.any id:=by
 rw [Bool.eq_iff_iff,List.any_eq_true,List.any_eq_true]
 constructor
 ·rintro ⟨i,hi,e⟩
  have hi:i < bs.length:=by simpa using hi
  exact ⟨bs[i],List.getElem_mem hi,by simpa [List.getD,hi] using e⟩
 ·rintro ⟨b,hb,e⟩
  obtain ⟨i,hi,e'⟩:=List.getElem_of_mem hb
  exact ⟨i,by simpa using hi,by simpa [List.getD,hi,e'] using e⟩
theorem FY (hc:X.calm = true):cq X (.builtin "all") (λxs H Q=>∃ (p:Addr) (bs:List Bool),xs = [.ref p]/\cR X.K H p (bs.map V.bl)/\Q (.bl (bs.all id)) H):=by
 intro pins s σ H xs us Q I r h
 obtain ⟨p,bs,rfl,hq,q⟩:=h
 obtain ⟨u,rfl,ru⟩:=vals1 r
 cases ru
 obtain ⟨its,rv,pl,hz⟩:=I.list hq
 have eits:=yx rv
 subst eits
 have hlt:p < s.heap.objs.size:=by obtain ⟨_,e,_⟩:=pl.isList; exact Heap.lt_size e
 have hh:X.A.in1.handled = none:=I.ok.hd hc
 refine call_all_walk (wpAny_pyIter_list pl.isList ?_)
 refine ⟨s.heap.objs.size,[s.heap.objs.size,p],[s.heap.objs.size],(bs.map Value.bool).toArray.size,(λi v=>(bs.map Value.bool).toArray[i]? = some v),_,(λi=>bs.getD i true),rfl,Walks.list hh s.heap.objs.size p (Nat.ne_of_lt hlt) _,⟨⟨_,Heap.get?_push_size _ rfl,rfl,rfl⟩,pl.isList.push _⟩,?_,?_⟩
 ·intro i v s' Q' E' hv hq'
  have hv':(bs.map Value.bool)[i]? = some v:=by simpa using hv
  rw [List.getElem?_map] at hv'
  cases e:bs[i]? with
  | none=>rw [e] at hv'; cases hv'
  | some b=>
    rw [e] at hv'
    have e2:v = Value.bool b:=(Option.some.inj hv').symm
    subst e2
    refine wpAny_truthy_bool ?_
    have e3:bs.getD i true = b:=by simp [List.getD,e]
    have hq2:Q' (bs.getD i true) s':=hq'
    rw [e3] at hq2
    exact hq2
 ·intro h' tk hk
  have e:(bs.map Value.bool).toArray.size = bs.length:=by simp
  rw [e,all_range]
  have I1:Inv X pins σ H { s with heap:=s.heap.push { cls:=.type "list_iterator",data:=.fields #[.ref p,.int 0 0] } }:=I.kept (t':=s.toks) λb o e=>Heap.get?_push_of_some _ e
  refine ⟨.bl _,H,I.kept (λb o e=>hk b o ?_ (Heap.get?_push_of_some _ e)),rfl,q⟩
  intro hm
  have:b = s.heap.objs.size:=by simpa using hm
  exact absurd (this▸Heap.lt_size e) (Nat.lt_irrefl _)
theorem Fz (hc:X.calm = true):cq X (.builtin "any") (λxs H Q=>∃ (p:Addr) (bs:List Bool),xs = [.ref p]/\cR X.K H p (bs.map V.bl)/\Q (.bl (bs.any id)) H):=by
 intro pins s σ H xs us Q I r h
 obtain ⟨p,bs,rfl,hq,q⟩:=h
 obtain ⟨u,rfl,ru⟩:=vals1 r
 cases ru
 obtain ⟨its,rv,pl,hz⟩:=I.list hq
 have eits:=yx rv
 subst eits
 have hlt:p < s.heap.objs.size:=by obtain ⟨_,e,_⟩:=pl.isList; exact Heap.lt_size e
 have hh:X.A.in1.handled = none:=I.ok.hd hc
 refine call_any_walk (wpAny_pyIter_list pl.isList ?_)
 refine ⟨s.heap.objs.size,[s.heap.objs.size,p],[s.heap.objs.size],(bs.map Value.bool).toArray.size,(λi v=>(bs.map Value.bool).toArray[i]? = some v),_,(λi=>bs.getD i true),rfl,Walks.list hh s.heap.objs.size p (Nat.ne_of_lt hlt) _,⟨⟨_,Heap.get?_push_size _ rfl,rfl,rfl⟩,pl.isList.push _⟩,?_,?_⟩
 ·intro i v s' Q' E' hv hq'
  have hv':(bs.map Value.bool)[i]? = some v:=by simpa using hv
  rw [List.getElem?_map] at hv'
  cases e:bs[i]? with
  | none=>rw [e] at hv'; cases hv'
  | some b=>
    rw [e] at hv'
    have e2:v = Value.bool b:=(Option.some.inj hv').symm
    subst e2
    refine wpAny_truthy_bool ?_
    have e3:bs.getD i true = b:=by simp [List.getD,e]
    have hq2:Q' (bs.getD i true) s':=hq'
    rw [e3] at hq2
    exact hq2
 ·intro h' tk hk
  have e:(bs.map Value.bool).toArray.size = bs.length:=by simp
  rw [e,any_range]
  refine ⟨.bl _,H,I.kept (λb o e=>hk b o ?_ (Heap.get?_push_of_some _ e)),rfl,q⟩
  intro hm
  have:b = s.heap.objs.size:=by simpa using hm
  exact absurd (this▸Heap.lt_size e) (Nat.lt_irrefl _)
end
end L2
end
section
namespace L2
open PySem PySem.Spec PyProof.Rows
theorem mem_of_lookup {α:Type} {x:Str} {k:α}:∀ {l:List (Str×α)},l.lookup x = some k->(x,k)∈l
 | [],h=>by simp at h
 | (n,a)::r,h=>by
   rw [List.lookup_cons] at h
   by_cases e:x = n
   ·subst e
    simp at h
    subst h
    exact List.mem_cons_self
   ·have e':(x == n) = false:=by simpa using e
    rw [e'] at h
    exact List.mem_cons_of_mem _ (mem_of_lookup h)
theorem jb {env:Env}:∀ {names:List (Str×NameKind)} {x:Str},names.lookup x = some .free->
  ((names.map λ(n,k)=>if (k == NameKind.free && env.scope.kind == .function && env.kindOf n == some .cell) then (n,NameKind.cell) else (n,k)).lookup x = some .cell\/
   (names.map λ(n,k)=>if (k == NameKind.free && env.scope.kind == .function && env.kindOf n == some .cell) then (n,NameKind.cell) else (n,k)).lookup x = some .free)
 | [],_,h=>by simp at h
 | (n,k)::r,x,h=>by
   have ih:=@jb env r x
   cases hx:x == n with
   | true=>
     simp only [List.lookup_cons,hx] at h
     cases h
     by_cases hc:(NameKind.free == NameKind.free && env.scope.kind == .function && env.kindOf n == some .cell) = true
     ·left; rw [List.map_cons]; dsimp only; rw [if_pos hc]; simp only [List.lookup_cons,hx]
     ·right; rw [List.map_cons]; dsimp only; rw [if_neg hc]; simp only [List.lookup_cons,hx]
   | false=>
     simp only [List.lookup_cons,hx] at h
     rw [List.map_cons]
     dsimp only
     by_cases hc:(k == NameKind.free && env.scope.kind == .function && env.kindOf n == some .cell) = true
     ·rw [if_pos hc]; simp only [List.lookup_cons,hx]; exact ih h
     ·rw [if_neg hc]; simp only [List.lookup_cons,hx]; exact ih h
theorem jV {env:Env}:∀ {names:List (Str×NameKind)} {x:Str} {k:NameKind},
  (names.map λ(n,k)=>if (k == NameKind.free && env.scope.kind == .function && env.kindOf n == some .cell) then (n,NameKind.cell) else (n,k)).lookup x = some k->
  (k = .cell\/k = .free)->names.lookup x = some .free\/names.lookup x = some .cell
 | [],_,_,h,_=>by simp at h
 | (n,k')::r,x,k,h,hk=>by
   have ih:=@jV env r x k
   rw [List.map_cons] at h
   dsimp only at h
   cases hx:x == n with
   | true=>
     by_cases hc:(k' == NameKind.free && env.scope.kind == .function && env.kindOf n == some .cell) = true
     ·rw [if_pos hc] at h
      have:k' = .free:=by
       have h1:=(Bool.and_eq_true _ _▸(Bool.and_eq_true _ _▸hc).1).1
       exact eq_of_beq h1
      subst this
      left; simp only [List.lookup_cons,hx]
     ·rw [if_neg hc] at h
      simp only [List.lookup_cons,hx] at h
      cases h
      rcases hk with e | e
      ·subst e; right; simp only [List.lookup_cons,hx]
      ·subst e; left; simp only [List.lookup_cons,hx]
   | false=>
     simp only [List.lookup_cons,hx]
     by_cases hc:(k' == NameKind.free && env.scope.kind == .function && env.kindOf n == some .cell) = true
     ·rw [if_pos hc] at h; simp only [List.lookup_cons,hx] at h; exact ih h hk
     ·rw [if_neg hc] at h; simp only [List.lookup_cons,hx] at h; exact ih h hk
theorem m8 (hh:∀ n:Str,True):∀ (names:List (Str×NameKind)) (cs:List (Str×Addr)),(∀ y∈names,y.2 = .free->∃ c,env.cells.lookup y.1 = some c)->
  (∀ n c,cs.lookup n = some c->env.cells.lookup n = some c)->
  ∃ cl,(forIn names cs λ(x:Str×NameKind) r=>if (x.2 == NameKind.free) = true then do let c ←cellOf env x.1; pure (ForInStep.yield ((x.1,c)::r)) else pure (ForInStep.yield r):Sem (List (Str×Addr))) = pure cl/\
    (∀ n c,cl.lookup n = some c->env.cells.lookup n = some c)/\(∀ n c,cs.lookup n = some c->∃ c',cl.lookup n = some c')/\(∀ y∈names,y.2 = .free->∃ c,cl.lookup y.1 = some c)
 | [],cs,_,h=>⟨cs,rfl,h,λn c e=>⟨c,e⟩,λ_ hy=>nomatch hy⟩
 | (n,k)::r,cs,hf,h=>by
   by_cases hk:k = .free
   ·subst hk
    obtain ⟨c,hc⟩:=hf (n,.free) List.mem_cons_self rfl
    obtain ⟨cl,e1,e2,e3,e4⟩:=m8 (env:=env) hh r ((n,c)::cs) (λy hy=>hf y (List.mem_cons_of_mem _ hy)) (λn' c' e=>by
     rw [List.lookup_cons] at e
     by_cases en:n' = n
     ·subst en; simp at e; subst e; exact hc
     ·have en':(n' == n) = false:=by simpa using en
      rw [en'] at e; exact h n' c' e)
    refine ⟨cl,?_,e2,λn' c' e=>?_,λy hy hy2=>?_⟩
    ·rw [List.forIn_cons]
     have ec:cellOf env n = pure c:=by unfold cellOf; rw [hc]
     simp only [beq_self_eq_true,if_true,ec]
     exact e1
    ·by_cases en:n' = n
     ·subst en; exact e3 n' c (by simp)
     ·have en':(n' == n) = false:=by simpa using en
      exact e3 n' c' (by rw [List.lookup_cons,en']; exact e)
    ·rcases List.mem_cons.mp hy with rfl | hy
     ·exact e3 n c (by simp)
     ·exact e4 y hy hy2
   ·obtain ⟨cl,e1,e2,e3,e4⟩:=m8 (env:=env) hh r cs (λy hy=>hf y (List.mem_cons_of_mem _ hy)) h
    refine ⟨cl,?_,e2,e3,λy hy hy2=>?_⟩
    ·rw [List.forIn_cons]
     have ek:(k == NameKind.free) = false:=by simpa using hk
     simp only [ek,Bool.false_eq_true,if_false]
     exact e1
    ·rcases List.mem_cons.mp hy with rfl | hy
     ·exact absurd hy2 hk
     ·exact e4 y hy hy2
theorem Ct (hf:∀ y∈scope.names,y.2 = .free->∃ c,env.cells.lookup y.1 = some c):
  ∃ cl,closureFor scope env = pure cl/\(∀ n c,cl.lookup n = some c->env.cells.lookup n = some c)/\(∀ y∈scope.names,y.2 = .free->∃ c,cl.lookup y.1 = some c):=by
 obtain ⟨cl,e1,e2,_,e4⟩:=m8 (env:=env) (λ_=>trivial) scope.names [] hf (λ_ _ h=>by simp at h)
 refine ⟨cl,?_,e2,e4⟩
 simp only [closureFor]
 rw [e1]
 rfl
section
theorem oq (I:Nat->Shared->Prop)
  (turn:∀ n s,I n s->wpAny (model prog w) A (pyNext it) (λr s₁=>match r with
   | none=>R (.ok .next) s₁
   | some v=>wpAny (model prog w) A (letOwnedTupleGo target it v) (λ_ s₁'=>wpAny (model prog w) A (assign target env v) (λ_ s₂=>
     wpAny (model prog w) A (forIn ifs true λc r=>if r = true then do let ok ←isTrue c env (eval c env); pure (ForInStep.yield ok) else pure (ForInStep.yield r)) (λok s₃=>
      if ok = true then wpAny (model prog w) A (eval elt env) (λx s₄=>
       wpAny (model prog w) A (call (.builtin "list.append") [acc,x]) (λ_ s₅=>∃ m,m < n/\I m s₅) (notedBy (model prog w) A env λe s'=>R (.error e) s') s₄) (notedBy (model prog w) A env λe s'=>R (.error e) s') s₃
      else ∃ m,m < n/\I m s₃) (notedBy (model prog w) A env λe s'=>R (.error e) s') s₂) (notedBy (model prog w) A env λe s'=>R (.error e) s') s₁') (notedBy (model prog w) A env λe s'=>R (.error e) s') s₁)
     (notedBy (model prog w) A env λe s'=>R (.error e) s') s)
  (n:Nat) (h:I n s):
  codeAny (model prog w) A (.compLoop (.ListComp elt [⟨target,iter,ifs,0⟩] scope pos) 0 it acc env) R s:=by
 refine codeAny_loop rfl I (λn s hI=>?_) n h
 show wpAny _ A ((compTurn (.ListComp elt [⟨target,iter,ifs,0⟩] scope pos) 0 it acc env).onRaise (λx=>do noteFrame x env; theTreesLotGoes x)) _ _ s
 refine wpAny_noted ?_
 rw [compTurn_list]
 refine wpAny_bind (wpAny_standAt (wpAny_bind (wpAny_mono (turn n s hI) (λr s₁ h₁=>?_) λ_ _ h'=>h')))
 cases r with
 | none=>exact wpAny_pure h₁
 | some v=>
   refine wpAny_bind (wpAny_mono h₁ (λ_ s₁' h₁'=>?_) λ_ _ h'=>h')
   refine wpAny_bind (wpAny_mono h₁' (λ_ s₂ h₂=>wpAny_bind (wpAny_mono h₂ (λok s₃ h₃=>?_) λ_ _ h'=>h')) λ_ _ h'=>h')
   cases ok with
   | false=>exact wpAny_pure ⟨rfl,h₃⟩
   | true=>
     exact wpAny_bind (wpAny_bind (wpAny_mono h₃ (λx s₄ h₄=>wpAny_bind (wpAny_mono h₄ (λ_ s₅ h₅=>wpAny_pure (wpAny_pure ⟨rfl,h₅⟩)) λ_ _ h'=>h')) λ_ _ h'=>h'))
end
def oV (X:Cx) (ifs:List Expr) (t:TT):Prop:=
 ∀ (pins:List (Addr×Obj)) (s:Shared) (σ:St) (H:Hp) (Q:Bool->Hp->Prop),Inv X pins σ H s->t σ H Q->
   wpAny (model X.prog X.w) X.A (forIn ifs true λc r=>if r = true then do let ok ←isTrue c X.env (eval c X.env); pure (ForInStep.yield ok) else pure (ForInStep.yield r)) (TP X pins σ Q) X.xe s
def NL:TT:=λ_ H Q=>Q true H
theorem Gm:oV X [] NL:=λ_ _ _ H Q I h=>wpAny_tests_nil ⟨H,I,h⟩
theorem GR (h:PT X c t):oV X [c] t:=λpins s σ H Q I hq=>wpAny_tests_one (h pins s σ H Q I hq)
def cf (X:Cx) (N:List Str) (scope:Scope) (cl:List (Str×Addr)) (C:Addr) (s₀:Shared) (H₀:Hp) (ex:List Addr):Cx:=
 { X with N:=N,s₀:=s₀,H₀:=H₀,env:=compEnvC scope cl C X.env,outer:=X.stack,ex:=ex,fn:=λ_=>false,pn:=[],xe:=λ_ _=>False,dZ:=none,iW:=[] }
def lU (σ:St) (nt:Nat) (fr:List Nat):St:=List.replicate nt none++fr.map λi=>(σ[i]?).getD none
def Ip (J:It) (σc:St) (g:TG) (tc:TT) (te:TE) (H1:Hp) (D:Addr) (Q:VK):Prop:=
 ∃ W:Nat->Nat->St->Hp->Prop,(∃ m,W 0 m σc (upd H1 D (.lst [])))/\∀ i m σ2 H2,W i m σ2 H2->
   (J.stop i H2/\Q (.ref D) H2)\/(J.go i H2/\∀ x H3,J.AR i H2 x H3->g x σ2 H3 λσ3 H4=>tc σ3 H4 λb H5=>
     if b = true then te σ3 H5 λy H6=>∃ ys,H6 D = some (.lst ys)/\ys.length < sizeLine/\∃ m',m' < m/\W (i+1) m' σ3 (upd H6 D (.lst (ys++[y])))
     else ∃ m',m' < m/\W (i+1) m' σ3 H5)
def qa (wi:TI) (nt:Nat) (fr:List Nat) (g:TG) (tc:TT) (te:TE):TE:=λσ H Q=>wi σ H λJ H1=>∀ D,H1 D = none->Ip J (lU σ nt fr) g tc te H1 D Q
section
theorem vg {elt tg iter:Expr} {ifs:List Expr} {scope:Scope} {pos:Pos} {wi:TI} {N:List Str} {fr:List Nat} {nt:Nat} {g:TG} {tc:TT} {te:TE} {use:Option (Value->Sem Unit)} {cpos:Pos}
  (hc:X.calm = true) (hi:PI X tg iter wi) (hk:scope.kind = .function) (hcell:∀ y∈scope.names,y.2≠.cell)
  (hfree:∀ y∈scope.names,y.2 = .free->X.env.kindOf y.1 = some .cell\/X.env.kindOf y.1 = some .free)
  (hnm:∀ y∈scope.names,y.2 = .local->scope.names.lookup y.1 = some .local)
  (hN:N.length = nt+fr.length) (hfr:fr.map (λi=>X.N[i]?) = (N.drop nt).map some) (hfr2:∀ x∈N.drop nt,scope.names.lookup x = some .free)
  (body:∀ cl C s₀ H₀ ex,PG (cf X N scope cl C s₀ H₀ ex) tg g/\oV (cf X N scope cl C s₀ H₀ ex) ifs tc/\PE (cf X N scope cl C s₀ H₀ ex) elt te)
  (hs:∀ x,foldedSetIterable iter X.env x = pure x)
  {pins:List (Addr×Obj)} {s:Shared} {σ:St} {H:Hp} {Q:VK} {Q':Value->Shared->Prop} (I:Inv X pins σ H s) (h:qa wi nt fr g tc te σ H Q)
  (fin:∀ (D C:Addr) (s':Shared) (H':Hp) (m:Str->Option Value),Q (.ref D) H'->s'.heap.Ns C m->nY X pins H' C->Inv X pins σ H' s'->
   match use with
   | none=>∀ h',Heap.SameBut C s'.heap h'->Q' (.ref D) { s' with heap:=h' }
   | some u=>wpAny (model X.prog X.w) X.A (u (.ref D)) (λ_ s''=>∃ m,s''.heap.Ns C m/\∀ h',Heap.SameBut C s''.heap h'->Q' .none { s'' with heap:=h' }) X.xe s'):
  wpAny (model X.prog X.w) X.A (comprehension (.ListComp elt [⟨tg,iter,ifs,0⟩] scope pos) scope X.env cpos (newList []) false (eval iter X.env) use) Q' X.xe s:=by
 obtain ⟨cl,hcl,hsub,hhas⟩:=Ct (scope:=scope) (env:=X.env) λy hy hy2=>I.ok.has y.1 (hfree y hy hy2)
 refine wpAny_comprehension_free (g:=⟨tg,iter,ifs,0⟩) (gs:=[]) rfl hs hcl hk hnm ?_
 refine aW (hi pins s σ H _ I h) λv s1 h1=>aW h1 λitv s2 h2=>?_
 obtain ⟨it,fp,tn,J,H2,e,I2,T,st2,f2,hq⟩:=h2
 subst e
 refine wpAny_newObj_type ?_
 have I3:Inv X pins σ (upd H2 s2.heap.objs.size (.lst [])) { s2 with heap:=s2.heap.push { cls:=.type "list",data:=.seq ([]:List Value).toArray } }:=I2.Lh (its:=[]) (t':=s2.toks) .nil (Nat.zero_le _)
 have hD:=hq s2.heap.objs.size I2.fresh
 obtain ⟨W,⟨m0,w0⟩,turn⟩:=hD
 generalize hH3:upd H2 s2.heap.objs.size (HO.lst []) = H3 at I3 w0
 have H3D:H3 s2.heap.objs.size = some (.lst []):=by rw [←hH3]; exact bj
 generalize hs3:({ s2 with heap:=s2.heap.push { cls:=.type "list",data:=.seq ([]:List Value).toArray } }:Shared) = s3 at I3
 have hs3h:s3.heap = s2.heap.push { cls:=.type "list",data:=.seq ([]:List Value).toArray }:=by rw [←hs3]
 have keep23:∀ b o,s2.heap.get? b = some o->s3.heap.get? b = some o:=λb o e=>by rw [hs3h]; exact Heap.get?_push_of_some _ e
 refine wpAny_newFunctionEnv hcell (by intro y hy; simp at hy) (λh4 hns4 hsb4=>?_) hk
 have hCfresh:s3.heap.get? s3.heap.objs.size = none:=Heap.get?_none_of_le (Nat.le_refl _)
 have old4:∀ b o,s3.heap.get? b = some o->h4.get? b = some o:=λb o e=>hsb4.extBut b o (Nat.ne_of_lt (Heap.lt_size e)) (Heap.get?_push_of_some _ e)
 generalize hs4:({ s3 with heap:=h4,toks:=s3.toks+ ([]:List (Str×Value)).length }:Shared) = s4
 show codeAny _ _ (.compStart _ 0 _ _ (compEnvC scope cl s3.heap.objs.size X.env)) _ s4
 have s4h:s4.heap = h4:=by rw [←hs4]
 obtain ⟨bg,bi,be⟩:=body cl s3.heap.objs.size s3 H3 fp
 have fpX:∀ b∈fp,b < s2.heap.objs.size:=λb hb=>by
  obtain ⟨o,e,_⟩:=T.obj _ _ st2 b hb
  exact Heap.lt_size e
 have fp3:∀ b∈fp,b < s3.heap.objs.size:=λb hb=>Nat.lt_of_lt_of_le (fpX b hb) (by rw [hs3h,Heap.size_push]; exact Nat.le_succ _)
 have H3fp:∀ b∈fp,H3 b = none:=λb hb=>by rw [←hH3,aZ (Nat.ne_of_lt (fpX b hb))]; exact (f2 b hb).1
 have cells_lt:∀ x c,X.env.cells.lookup x = some c->c < s3.heap.objs.size:=λx c e=>by
  obtain ⟨v,q⟩:=I3.cell x c e
  exact q.lt
 have stkNe:∀ b∈fp,b∉d8 X.stack:=λb hb z=>by
  rcases List.mem_cons.mp (I2.yp b z) with e | z
  ·exact (f2 b hb).2.1 e
  ·exact (f2 b hb).2.2.1 z
 have Ee:(cf X N scope cl s3.heap.objs.size s3 H3 fp).Ok:=by
  refine ⟨I3.ok.mod,hk,I3.ok.glob,I3.ok.blt,Nat.le_refl _,?_,?_,?_,I3.ok.hd,I3.ok.frames,.inl rfl,?_,I3.bs,Nat.le_trans I3.ok.vX I3.sz,?_,stkNe,I3.stack,I3.p7⟩
  ·exact λx y c e1 e2=>I3.ok.inj x y c (hsub x c e1) (hsub y c e2)
  ·intro x hx
   have hx':scope.names.lookup x = some .free\/scope.names.lookup x = some .cell:=by
    rcases hx with hx | hx
    ·exact jV (env:=X.env) hx (.inl rfl)
    ·exact jV (env:=X.env) hx (.inr rfl)
   rcases hx' with hx' | hx'
   ·exact hhas (x,.free) (mem_of_lookup hx') rfl
   ·exact absurd rfl (hcell (x,.cell) (mem_of_lookup hx'))
  ·intro x c e; cases e
  ·intro b hb
   refine ⟨Nat.ne_of_lt (fp3 b hb),λx c e=>?_⟩
   exact (f2 b hb).2.2.2.2.1 x c (hsub x c e)
  ·intro b o e hb
   rcases (f2 b hb).2.2.2.1 with z | z
   ·exact I2.ok.kC b o e z
   ·exact absurd (Nat.lt_of_lt_of_le (Heap.lt_size e) (Nat.le_trans I2.ok.vX z)) (Nat.lt_irrefl _)
 have I4:Inv (cf X N scope cl s3.heap.objs.size s3 H3 fp) [] (lU σ nt fr) H3 s4:=by
  refine ⟨Ee,by rw [←hs4]; rfl,by rw [←hs4]; exact I3.bare,?_,?_,?_,I3.fresh,?_,?_,?_,?_,λ_ e=>nomatch e⟩
  ·rw [s4h]; exact Un.kept old4
  ·refine ⟨_,by rw [s4h]; exact hns4,λi x v e1 e2 e3=>?_⟩
   have hlt:¬i < nt:=λhlt=>by
    unfold lU at e2
    rw [List.getElem?_append_left (by simpa using hlt)] at e2
    rw [List.getElem?_replicate] at e2
    simp [hlt] at e2
   have hge:nt<=i:=Nat.le_of_not_lt hlt
   have e2':(fr.map λi=>(σ[i]?).getD none)[i - nt]? = some (some v):=by
    unfold lU at e2
    rw [List.getElem?_append_right (by simpa using hge)] at e2
    simpa using e2
   rw [List.getElem?_map] at e2'
   cases efr:fr[i - nt]? with
   | none=>rw [efr] at e2'; cases e2'
   | some j=>
     rw [efr] at e2'
     have ej:(σ[j]?).getD none = some v:=Option.some.inj e2'
     have ej':σ[j]? = some (some v):=by
      cases q:σ[j]? with
      | none=>rw [q] at ej; cases ej
      | some z=>rw [q] at ej; rw [show z = some v from ej]
     have eN:(N.drop nt)[i - nt]? = some x:=by
      rw [List.getElem?_drop]
      have:nt+ (i - nt) = i:=by omega
      rw [this]; exact e1
     have eXN:X.N[j]? = some x:=by
      have q:=congrArg (λl=>l[i - nt]?) hfr
      simp only [List.getElem?_map,efr,eN,Option.map_some] at q
      exact Option.some.inj q
     have hx:scope.names.lookup x = some .free:=hfr2 x (List.mem_of_getElem? eN)
     have kx:=hfree (x,.free) (mem_of_lookup hx) rfl
     obtain ⟨m,hn,hl⟩:=I3.loc
     obtain ⟨u,r,l⟩:=hl j x v eXN ej' (by rcases kx with k | k; exact .inr (.inl k); exact .inr (.inr k))
     refine ⟨u,r,.inr ⟨jb (env:=X.env) hx,?_⟩⟩
     rcases l with ⟨k,_⟩ | ⟨_,c,ec,z⟩
     ·have k':X.env.kindOf x = some .local:=k
      rcases kx with kx | kx
      ·have kx':X.env.kindOf x = some .cell:=kx
       rw [k'] at kx'; cases kx'
      ·have kx':X.env.kindOf x = some .free:=kx
       rw [k'] at kx'; cases kx'
     ·obtain ⟨c',ec'⟩:=hhas (x,.free) (mem_of_lookup hx) rfl
      have:c' = c:=by
       have:=hsub x c' ec'
       rw [ec] at this
       exact (Option.some.inj this).symm
      subst this
      exact ⟨c',ec',by rw [s4h]; exact z.keeps old4⟩
  ·intro x c e
   obtain ⟨v,z⟩:=I3.cell x c (hsub x c e)
   exact ⟨v,by rw [s4h]; exact z.keeps old4⟩
  ·exact λx c e=>I3.gQ x c (hsub x c e)
  ·intro p hp; exact absurd hp (by simp [cf])
  ·rw [s4h]; exact I3.bt.kept old4
  ·show (lU σ nt fr).length = N.length
   unfold lU
   rw [List.length_append,List.length_replicate,List.length_map,hN]
 have stat:∀ {H':Hp},(∀ b∈fp,H' b = none)->∀ b∈fp,nY (cf X N scope cl s3.heap.objs.size s3 H3 fp) [] H' b:=λhn b hb=>
  ⟨hn b hb,Nat.ne_of_lt (fp3 b hb),stkNe b hb,.inl hb,λx c e=>(f2 b hb).2.2.2.2.1 x c (hsub x c e),λp hp=>absurd hp (by simp [cf])⟩
 have tn4:tn 0 s4.heap:=T.keep _ _ _ st2 λb hb o e=>by rw [s4h]; exact old4 b o (keep23 b o e)
 generalize hX':cf X N scope cl s3.heap.objs.size s3 H3 fp = X' at bg bi be Ee I4 stat
 have eA:X'.A = X.A:=by rw [←hX']; rfl
 have eP:X'.prog = X.prog:=by rw [←hX']; rfl
 have ew:X'.w = X.w:=by rw [←hX']; rfl
 have eE:X'.xe = λ_ _=>False:=by rw [←hX']; rfl
 have eEnv:X'.env = compEnvC scope cl s3.heap.objs.size X.env:=by rw [←hX']; rfl
 have eK:X'.K = X.K:=by rw [←hX']; rfl
 have T':Turn X'.prog X'.w X'.K tg J fp it tn:=by rw [eP,ew,eK]; exact T
 have loop:codeAny (model X.prog X.w) X.A (.compLoop (.ListComp elt [⟨tg,iter,ifs,0⟩] scope pos) 0 (.ref it) (.ref s2.heap.objs.size) (compEnvC scope cl s3.heap.objs.size X.env))
   (compPost (model X.prog X.w) X.A X.xe use Q' (.ref s2.heap.objs.size) s3.heap.objs.size) s4:=by
  rw [←eEnv,←eA,←eP,←ew]
  refine oq (λn s'=>∃ i σ' H',Inv X' [] σ' H' s'/\tn i s'.heap/\(∀ b∈fp,H' b = none)/\W i n σ' H') ?_ m0 ⟨0,_,H3,I4,tn4,H3fp,w0⟩
  rintro n s5 ⟨i,σ5,H5,I5,st5,fr5,w5⟩
  have imp:∀ {α:Type} {t:Sem α} {Q1:α->Shared->Prop} {E1:Value->Shared->Prop} {s1:Shared},wpAny (model X'.prog X'.w) X'.A t Q1 (λ_ _=>False) s1->wpAny (model X'.prog X'.w) X'.A t Q1 E1 s1:=λh=>wpAny_mono h (λ_ _ q=>q) λ_ _ z=>False.elim z
  have impX:∀ {α:Type} {t:Sem α} {Q1:α->Shared->Prop} {E1:Value->Shared->Prop} {s1:Shared},wpAny (model X'.prog X'.w) X'.A t Q1 X'.xe s1->wpAny (model X'.prog X'.w) X'.A t Q1 E1 s1:=λh=>by rw [eE] at h; exact imp h
  rcases turn i n σ5 H5 w5 with ⟨stop,qn⟩ | ⟨go,step⟩
  ·refine imp (aW (T'.done X' rfl rfl rfl (by rw [←hX']; exact hc) i [] s5 σ5 H5 _ I5 (stat fr5) st5 stop) λr s6 ⟨hr,I6⟩=>?_)
   subst hr
   obtain ⟨m,hn,_⟩:=id I6.loc
   have hnC:s6.heap.Ns s3.heap.objs.size m:=by
    have:X'.env.locals = s3.heap.objs.size:=by rw [←hX']; rfl
    rw [←this]; exact hn
   have gQ:H5 s3.heap.objs.size = none:=by
    have:=I6.free
    rw [←hX'] at this; exact this
   have un6:Un (d8 X.stack) fp H3 H5 s3.heap s6.heap:=by
    have:=I6.base
    rw [←hX'] at this; exact this
   have os6:s6.os = s3.os:=by
    have:=I6.os
    rw [←hX'] at this; exact this
   have hok6:eX X.prog X.w H5 s6.heap:=by
    have:=I6.bt
    rw [←hX'] at this; exact this
   have IX:∀ h',Heap.SameBut s3.heap.objs.size s6.heap h'->Inv X pins σ H5 { s6 with heap:=h' }:=λh' sb=>by
    have ne:∀ b o,s3.heap.get? b = some o->b≠s3.heap.objs.size:=λb o e=>Nat.ne_of_lt (Heap.lt_size e)
    refine I3.HU (s':={ s6 with heap:=h' }) (ch:=fp) os6 ⟨λb o e n hb hx=>?_,λb o e n hb hx=>?_,un6.free,λb o e hx=>?_,un6.hU,un6.gC,un6.hG⟩ (λb u e=>?_) I6.bare (λb hb=>?_)
    ·exact (sb.2 b (ne b o e)).trans (un6.keep b o e n hb hx)
    ·obtain ⟨sl,z⟩:=un6.slot b o e n hb hx
     exact ⟨sl,(sb.2 b (ne b o e)).trans z⟩
    ·obtain ⟨o',z⟩:=un6.there b o e hx
     exact ⟨o',(sb.2 b (ne b o e)).trans z⟩
    ·refine (hok6 b u e).nP (λc w' hc q=>(sb.2 c ?_).trans q) (λ_ q=>q) λ_ _ q=>q
     rintro rfl
     rcases hc with rfl | hc
     ·rw [gQ] at e; cases e
     ·rw [gQ] at hc; cases hc
    ·obtain ⟨f0,f1,fs2,f3,f4,f5⟩:=f2 b hb
     exact ⟨f3,f1,f4,f5⟩
   have hfin:=fin s2.heap.objs.size s3.heap.objs.size s6 H5 m qn hnC (I3.rj (Nat.le_refl _) gQ) (IX s6.heap (Heap.SameBut.refl ..))
   cases use with
   | none=>exact ⟨m,hnC,hfin⟩
   | some u=>rw [eP,ew,eA]; exact hfin
  ·refine imp (aW (T'.item X' rfl rfl rfl (by rw [←hX']; exact hc) i [] s5 σ5 H5 _ I5 (stat fr5) st5 go) λr s6 ⟨u,hr,h6⟩=>?_)
   subst hr
   refine imp (aW h6 λ_ s7 ⟨x,H7,I7,r7,y7,st7,fr7⟩=>?_)
   have I7':=I7.pinned (stat fr7) (T.obj _ _ st7)
   refine impX (aW (bg _ s7 σ5 H7 x u _ I7' r7 (step x H7 y7)) λ_ s8 ⟨σ8,H8,I8,q8⟩=>?_)
   refine impX (aW (bi _ s8 σ8 H8 _ I8 q8) λok s9 ⟨H9,I9,q9⟩=>?_)
   have again:∀ {H10:Hp} {s10:Shared},Inv X' ([]++oU fp s7.heap) σ8 H10 s10->(∃ m',m' < n/\W (i+1) m' σ8 H10)->∃ m,m < n/\∃ i σ' H',Inv X' [] σ' H' s10/\tn i s10.heap/\(∀ b∈fp,H' b = none)/\W i m σ' H':=λ{H10 s10} I10 ⟨m',hm,w10⟩=>by
    refine ⟨m',hm,i+1,σ8,H10,I10.nU,T.keep _ _ _ st7 λb hb o e=>(I10.pin (b,o) (List.mem_append_right _ (List.mem_append_right _ (ka hb e)))).1,λb hb=>?_,w10⟩
    obtain ⟨o,e,d⟩:=T.obj _ _ st7 b hb
    exact (I10.pin (b,o) (List.mem_append_right _ (List.mem_append_right _ (ka hb e)))).2.1
   cases ok with
   | false=>
     rw [if_neg Bool.false_ne_true] at q9
     rw [if_neg Bool.false_ne_true]
     exact again I9 q9
   | true=>
     rw [if_pos rfl] at q9
     rw [if_pos rfl]
     refine impX (aW (be _ s9 σ8 H9 _ I9 q9) λy s10 ⟨yv,H10,I10,r10,ys,hy,hz,q10⟩=>?_)
     refine impX (aW (oR _ s10 σ8 H10 (.ref s2.heap.objs.size) [yv] (.ref s2.heap.objs.size) [y] (λ_ H'=>∃ m',m' < n/\W (i+1) m' σ8 H') I10 rfl (.cons r10 .nil) ⟨_,ys,yv,rfl,rfl,hy,hz,q10⟩) λ_ s11 ⟨_,H11,I11,_,q11⟩=>again I11 q11)
 exact codeAny_compStart_list loop (T.self _ 0 s4 _ _ tn4 loop)
theorem JS
  (hc:X.calm = true) (hi:PI X tg iter wi) (hk:scope.kind = .function) (hcell:∀ y∈scope.names,y.2≠.cell)
  (hfree:∀ y∈scope.names,y.2 = .free->X.env.kindOf y.1 = some .cell\/X.env.kindOf y.1 = some .free)
  (hnm:∀ y∈scope.names,y.2 = .local->scope.names.lookup y.1 = some .local)
  (hN:N.length = nt+fr.length) (hfr:fr.map (λi=>X.N[i]?) = (N.drop nt).map some) (hfr2:∀ x∈N.drop nt,scope.names.lookup x = some .free)
  (body:∀ cl C s₀ H₀ ex,PG (cf X N scope cl C s₀ H₀ ex) tg g/\oV (cf X N scope cl C s₀ H₀ ex) ifs tc/\PE (cf X N scope cl C s₀ H₀ ex) elt te)
  (hs:∀ x,foldedSetIterable iter X.env x = pure x:=by intro _; rfl):PE X (.ListComp elt [⟨tg,iter,ifs,0⟩] scope pos) (qa wi nt fr g tc te):=by
 intro pins s σ H Q I h
 rw [eval_ListComp]
 refine vg (use:=none) hc hi hk hcell hfree hnm hN hfr hfr2 body hs I h ?_
 intro D C s' H' m q hn f IX h' sb
 obtain ⟨f0,f1,f2,f3,f4,f5⟩:=f
 exact ⟨.ref D,H',IX.turned (t':=s'.toks) (λb o hb e=>(sb.2 b hb).trans e) f0 f1 f3 f4 f5,rfl,q⟩
theorem Ce
  (hND:X.N.Nodup) (hy:X.N[i]? = some y) (hx:X.env.scope.names.lookup y = some .local)
  (hc:X.calm = true) (hi:PI X tg iter wi) (hk:scope.kind = .function) (hcell:∀ y∈scope.names,y.2≠.cell)
  (hfree:∀ y∈scope.names,y.2 = .free->X.env.kindOf y.1 = some .cell\/X.env.kindOf y.1 = some .free)
  (hnm:∀ y∈scope.names,y.2 = .local->scope.names.lookup y.1 = some .local)
  (hN:N.length = nt+fr.length) (hfr:fr.map (λi=>X.N[i]?) = (N.drop nt).map some) (hfr2:∀ x∈N.drop nt,scope.names.lookup x = some .free)
  (body:∀ cl C s₀ H₀ ex,PG (cf X N scope cl C s₀ H₀ ex) tg g/\oV (cf X N scope cl C s₀ H₀ ex) ifs tc/\PE (cf X N scope cl C s₀ H₀ ex) elt te)
  (hsw:swapsWith (.ListComp elt [⟨tg,iter,ifs,0⟩] scope pos) (some (.Name y py)) spos.line X.env = pure true:=by rfl)
  (han:X.dZ = none\/i∈X.iW:=by first | exact .inl rfl | exact .inr (by decide) | assumption)
  (hs:∀ x,foldedSetIterable iter X.env x = pure x:=by intro _; rfl):PS X (.Assign [.Name y py] (.ListComp elt [⟨tg,iter,ifs,0⟩] scope pos) spos) (uQ (qa wi nt fr g tc te) (la i)):=by
 intro pins s σ H D I h
 rw [exec_Assign_Name_used _ _ _ _ hsw]
 refine wpAny_bind (wpAny_standAt (wpAny_bind ?_))
 show wpAny _ X.A (do let _ ←comprehension (.ListComp elt [⟨tg,iter,ifs,0⟩] scope pos) scope X.env _ (newList []) false (eval iter X.env) (some (assign (.Name y py) X.env))) _ _ s
 refine wpAny_bind (wpAny_mono (vg (use:=some (assign (.Name y py) X.env)) (Q':=λ_ s'=>SP X pins D .next s') hc hi hk hcell hfree hnm hN hfr hfr2 body hs I h ?_) (λ_ s' hq=>wpAny_pure (wpAny_pure hq)) λ_ _ e=>e)
 intro D' C s' H' m q hn f IX
 refine wpAny_assign_Name (vm IX hND hy (.inl hx) (v:=.ref D') rfl (λs2 I2 ⟨a,sb,ha⟩=>?_) han (.inr hx))
 obtain ⟨f0,f1,f2,f3,f4,f5⟩:=f
 have hCa:C≠a:=by
  rcases ha with e | e
  ·rw [e]; exact f1
  ·exact λz=>f4 y a e z.symm
 refine ⟨m,hn.sameBut sb hCa,λh' sb'=>?_⟩
 exact ⟨_,H',I2.turned (t':=s2.toks) (λb o hb e=>(sb'.2 b hb).trans e) f0 f1 f3 f4 f5,q⟩
end
end L2
end
section
namespace L2
open PySem PySem.Spec PyProof.Rows
section
variable {P:Program} {w:World} {K:W.Frag} {mg:Str->Option Value} {base:Heap}
end
def t8 (J:It) (P:Hp->Prop) (xs:List V):Prop:=∀ i H,P H->(∀ x,xs[i]? = some x->J.go i H/\∀ y H',J.AR i H y H'->H' = H/\y = x)/\(xs.length<=i->J.stop i H)
theorem AU {K:W.Frag} {a:Addr} {xs:List V}:t8 (Hj K a) (λH=>cR K H a xs) xs:=λi H h=>
 ⟨λx e=>⟨⟨xs,x,h,e⟩,λy H' ⟨e1,e2⟩=>⟨e1,by have:=e2 xs h; rw [e] at this; exact (Option.some.inj this).symm⟩⟩,λhl=>⟨xs,h,hl⟩⟩
theorem DC {K:W.Frag} {a:Addr} {xs:List V}:t8 (Hg K a) (λH=>dz K H a xs) xs:=λi H h=>
 ⟨λx e=>⟨⟨xs,x,h,e⟩,λy H' ⟨e1,e2⟩=>⟨e1,by have:=e2 xs h; rw [e] at this; exact (Option.some.inj this).symm⟩⟩,λhl=>⟨xs,h,hl⟩⟩
def sgn (c:Nat):V:=.str (ao [c])
theorem D6:t8 (Fe z) (λ_=>True) ((Cd z).map sgn):=λi H _=>
 ⟨λx e=>by
  rw [List.getElem?_map] at e
  cases q:(Cd z)[i]? with
  | none=>rw [q] at e; cases e
  | some c=>
    rw [q] at e
    have e':sgn c = x:=Option.some.inj e
    refine ⟨(List.getElem?_eq_some_iff.mp q).1,λy H' ⟨e1,c',e2,e3⟩=>⟨e1,?_⟩⟩
    rw [q] at e2
    cases e2
    rw [e3,←e']; rfl,λhl=>by rw [List.length_map] at hl; exact hl⟩
theorem yw {lo:Int} {n:Nat}:t8 (E7 lo n) (λ_=>True) ((List.range n).map λi=>V.int (lo+ (i:Nat))):=λi H _=>
 ⟨λx e=>by
  rw [List.getElem?_map] at e
  cases q:(List.range n)[i]? with
  | none=>rw [q] at e; cases e
  | some c=>
    rw [q] at e
    have hi:=(List.getElem?_eq_some_iff.mp q).1
    rw [List.length_range] at hi
    have hc:c = i:=by
     rw [List.getElem?_range hi] at q
     exact (Option.some.inj q).symm
    subst hc
    have e':V.int (lo+ (c:Nat)) = x:=Option.some.inj e
    exact ⟨hi,λy H' ⟨e1,e2⟩=>⟨e1,by rw [e2,←e']⟩⟩,λhl=>by rw [List.length_map,List.length_range] at hl; exact hl⟩
theorem aK.upd (s:aK H H') (n:H a = none):aK H (upd H' a o):=λb u e=>by
 rw [aZ (dB e n)]; exact s b u e
end L2
end
section
namespace L2
open PySem PySem.Spec PyProof.Rows
section
theorem PE.imp (h:PE X e t) (hi:∀ σ H Q,t' σ H Q->t σ H Q):PE X e t':=λpins s σ H Q I q=>h pins s σ H Q I (hi σ H Q q)
theorem PT.imp (h:PT X e t) (hi:∀ σ H Q,t' σ H Q->t σ H Q):PT X e t':=λpins s σ H Q I q=>h pins s σ H Q I (hi σ H Q q)
theorem b4.imp (h:b4 X f r) (hi:∀ x y H Q,r' x y H Q->r x y H Q):b4 X f r':=λpins s σ H x y v u Q I rx ry q=>h pins s σ H x y v u Q I rx ry (hi _ _ _ _ q)
theorem cq.imp (h:cq X f r) (hi:∀ xs H Q,r' xs H Q->r xs H Q):cq X f r':=λpins s σ H xs us Q I rs q=>h pins s σ H xs us Q I rs (hi _ _ _ q)
def jo (i:Nat):TE:=λσ H Q=>match σ[i]? with
 | some (some v)=>Q v H
 | _=>False
theorem qv (i:Nat) (hN:X.N[i]? = some x:=by rfl) (hv:vy X.env.scope x:=by first | exact Or.inl rfl | exact Or.inr (Or.inl rfl) | exact Or.inr (Or.inr rfl)) (hd:(x == ("__debug__":Str)) = false:=by decide)
  (hcd:(x == ("__classdict__":Str)) = false:=by decide):PE X (.Name x pos) (jo i):=(LQ hN hv hd hcd).imp λσ H Q q=>by
 unfold jo at q
 split at q
 ·exact ⟨_,by assumption,q⟩
 ·exact q.elim
def wG (mg:Str->Option Value) (x:Str) (v:V):Prop:=∃ u,mg x = some u/\RelV v u
theorem M9 (h:wG X.mg x v) (hg:Gl X x:=by rfl) (hd:(x == ("__debug__":Str)) = false:=by decide):PE X (.Name x pos) (tC v):=by
 obtain ⟨u,h1,h2⟩:=h
 exact IE hg h1 h2 hd
theorem fk (hm:X.mg x = none) (hv:bootBuiltins x = some (.type n)) (hg:Gl X x:=by rfl) (hn:x≠"__name__":=by decide) (hd:(x == ("__debug__":Str)) = false:=by decide):PE X (.Name x pos) (tC (.ty n)):=
 Jf hg hm hv rfl hn hd
def cI (g:Int->Int->V):R2:=λx y H Q=>match x,y with
 | .int i,.int j=>Q (g i j) H
 | _,_=>False
theorem xR (x y:V) (H:Hp) (Q:VK) (q:cI g x y H Q):qR g x y H Q:=by
 unfold cI at q
 split at q
 ·exact ⟨_,_,rfl,rfl,q⟩
 ·exact q.elim
def qW (C:Int->Int->Prop) (g:Int->Int->V):R2:=λx y H Q=>match x,y with
 | .int i,.int j=>C i j/\Q (g i j) H
 | _,_=>False
theorem pW (x y:V) (H:Hp) (Q:VK) (q:qW C g x y H Q):rI C g x y H Q:=by
 unfold qW at q
 split at q
 ·exact ⟨_,_,rfl,rfl,q⟩
 ·exact q.elim
def Qa:R2:=λx y H Q=>match x,y with
 | .int i,.int j=>Q (.int (i+j)) H
 | .str i,.str j=>i.length+j.length<=sizeLine/\Q (.str (i++j)) H
 | .ref l,.ref b=>∃ xs zs,H l = some (.lst xs)/\H b = some (.lst zs)/\xs.length+zs.length<=sizeLine/\∀ p,H p = none->Q (.ref p) (upd H p (.lst (xs++zs)))
 | _,_=>False
theorem pU:b4 X (binaryOp .Sub) (cI λi j=>.int (i - j)):=MC.imp xR
theorem HS:b4 X (binaryOp .Mult) (qW lY λi j=>.int (i * j)):=MJ.imp pW
theorem MP:b4 X (binaryOp .FloorDiv) (qW BU λi j=>.int (i / j)):=IM.imp pW
theorem Hm:b4 X (binaryOp .Mod) (qW (λ_ j=>0 < j) λi j=>.int (i % j)):=K0.imp pW
theorem NS:b4 X (binaryOp .Pow) (qW BE λi j=>.int (i ^ j.toNat)):=MF.imp pW
def cL (n:Int) (g:Int->Int->V) (t:TE):TE:=λσ H Q=>t σ H λx H1=>match x with
 | .int i=>Q (g i n) H1
 | _=>False
theorem qL (ho:b4 X (binaryOp op) (qW C g)) (ha:PE X a ta) (hC:∀ i,C i n):PE X (.BinOp a op (.Constant (.int n) k p2) pos) (cL n g ta):=
 λpins s σ H Q I h=>by
  refine wpAny_BinOp (aW (ha pins s σ H _ I h) λv s1 ⟨x,H1,I1,r1,q1⟩=>wpAny_Constant_int ?_)
  refine ho pins _ σ H1 x (.int n) v _ Q (I1.tok _) r1 ⟨_,rfl⟩ ?_
  cases x with
  | int i=>exact ⟨hC i,q1⟩
  | _=>exact q1.elim
theorem KP (ha:PE X a ta) (hn:0 < n:=by decide):PE X (.BinOp a .Mod (.Constant (.int n) k p2) pos) (cL n (λi j=>.int (i % j)) ta):=qL Hm ha λ_=>hn
theorem Jz (ha:PE X a ta) (hn:0 < n/\n < 1073741824:=by decide):PE X (.BinOp a .FloorDiv (.Constant (.int n) k p2) pos) (cL n (λi j=>.int (i / j)) ta):=qL MP ha λ_=>hn
theorem MI (ha:PE X a ta) (hn:-(2 ^ 64) < n/\n < 2 ^ 64:=by decide):PE X (.BinOp a .Mult (.Constant (.int n) k p2) pos) (cL n (λi j=>.int (i * j)) ta):=qL HS ha λ_=>.inr hn
theorem L9 (hn:0<=n/\n<=1000000/\m.natAbs < 2 ^ 64:=by decide):PE X (.BinOp (.Constant (.int m) k p1) .Pow (.Constant (.int n) k2 p2) pos) (tC (.int (m ^ n.toNat))):=
 λpins s σ H Q I h=>by
  refine wpAny_BinOp (wpAny_Constant_int (wpAny_Constant_int ?_))
  exact NS pins _ σ H (.int m) (.int n) _ _ Q ((I.tok _).tok _) ⟨_,rfl⟩ ⟨_,rfl⟩ ⟨hn,h⟩
def EW:V->V->Option Bool
 | .int i,.int j=>some (decide (i = j))
 | .str i,.str j=>some (decide (i = j))
 | .bl i,.bl j=>some (decide (i = j))
 | .non,.non=>some true
 | .non,.int _=>some false | .int _,.non=>some false | .non,.bl _=>some false | .bl _,.non=>some false | .non,.str _=>some false | .str _,.non=>some false
 | .int _,.str _=>some false | .str _,.int _=>some false | .bl _,.str _=>some false | .str _,.bl _=>some false
 | _,_=>none
theorem Ea (h:EW x y = some k):BB x y = true/\decide (x = y) = k:=by
 cases x <;> cases y <;> simp [EW,BB] at h ⊢ <;> exact h
def HX:R2:=λx y H Q=>match EW x y with
 | some k=>Q (.bl k) H
 | none=>False
def Ij:R2:=λx y H Q=>match EW x y with
 | some k=>Q (.bl (!k)) H
 | none=>False
theorem jr:b4 X (compareOp .Eq) HX:=Np.imp λx y H Q q=>by
 unfold HX at q
 split at q
 ·rename_i k h
  obtain ⟨h1,h2⟩:=Ea h
  exact ⟨h1,by rw [h2]; exact q⟩
 ·exact q.elim
theorem rT:b4 X (compareOp .NotEq) Ij:=NK.imp λx y H Q q=>by
 unfold Ij at q
 split at q
 ·rename_i k h
  obtain ⟨h1,h2⟩:=Ea h
  exact ⟨h1,by rw [h2]; exact q⟩
 ·exact q.elim
def vB (a b:List Nat):Bool:=decide (a < b)
def MZ:R2:=λx y H Q=>match x,y with
 | .int i,.int j=>Q (.bl (decide (i < j))) H
 | .str i,.str j=>Q (.bl (vB (Cd i) (Cd j))) H
 | _,_=>False
def Ks:R2:=λx y H Q=>match x,y with
 | .int i,.int j=>Q (.bl (decide (i<=j))) H
 | .str i,.str j=>Q (.bl (!vB (Cd j) (Cd i))) H
 | _,_=>False
theorem uw:b4 X (compareOp .Lt) MZ:=(Nl.or CW).imp λx y H Q q=>by
 unfold MZ at q
 split at q
 ·exact .inl ⟨_,_,rfl,rfl,q⟩
 ·exact .inr ⟨_,_,rfl,rfl,q⟩
 ·exact q.elim
theorem xZ:b4 X (compareOp .LtE) Ks:=(NH.or E3).imp λx y H Q q=>by
 unfold Ks at q
 split at q
 ·exact .inl ⟨_,_,rfl,rfl,q⟩
 ·exact .inr ⟨_,_,rfl,rfl,q⟩
 ·exact q.elim
theorem FE:b4 X (compareOp .Gt) (cI λi j=>.bl (decide (j < i))):=NG.imp xR
theorem Cc:b4 X (compareOp .GtE) (cI λi j=>.bl (decide (j<=i))):=NV.imp xR
def Et (K:W.Frag) (neg:Bool):R2:=λx y H Q=>match y with
 | .str j=>(match x with
   | .str i=>Q (.bl (xor neg (!(Builtin.Str.occurrences j i 0 j.length 1).isEmpty))) H
   | _=>False)
 | .ref p=>ip x = true/\∃ xs,(cR K H p xs\/dz K H p xs)/\xs.all ip = true/\Q (.bl (xor neg (Eh x xs))) H
 | _=>False
theorem GU:b4 X (compareOp .In) (Et X.K false):=(E6.or DR).imp λx y H Q q=>by
 unfold Et at q
 split at q
 ·split at q
  ·exact .inl ⟨_,_,rfl,rfl,by simpa using q⟩
  ·exact q.elim
 ·obtain ⟨h1,xs,h2,h3,h4⟩:=q
  exact .inr ⟨_,xs,rfl,h2,h1,h3,by simpa using h4⟩
 ·exact q.elim
theorem IV:b4 X (compareOp .NotIn) (Et X.K true):=(xv.or xy).imp λx y H Q q=>by
 unfold Et at q
 split at q
 ·split at q
  ·exact .inl ⟨_,_,rfl,rfl,by simpa using q⟩
  ·exact q.elim
 ·obtain ⟨h1,xs,h2,h3,h4⟩:=q
  exact .inr ⟨_,xs,rfl,h2,h1,h3,by simpa using h4⟩
 ·exact q.elim
def AE (x:V) (k:Bool->Prop):Prop:=match x with
 | .bl b=>k b
 | _=>False
theorem uS (h:AE x k):∃ b,x = .bl b/\k b:=by
 unfold AE at h
 split at h
 ·exact ⟨_,rfl,h⟩
 ·exact h.elim
theorem NC (ho:b4 X (compareOp op) r) (ha:PE X a ta) (hb:PE X b tb) (hm:behindInMarks op b = false:=by first | exact tf _ (by decide) (by decide) | with_unfolding_all rfl):PE X (.Compare a [op] [b] pos) (xn r ta tb):=Jh ho ha hb hm
def cT (t:TE):TT:=λσ H Q=>t σ H λx H1=>AE x λk=>Q k H1
theorem NP (ho:b4 X (compareOp op) r) (ha:PE X a ta) (hb:PE X b tb) (hm:behindInMarks op b = false:=by first | exact tf _ (by decide) (by decide) | with_unfolding_all rfl):PT X (.Compare a [op] [b] pos) (cT (xn r ta tb)):=by
 intro pins s σ H Q I h
 refine wpAny_isTrue_Compare1 (aW (ha pins s σ H _ I h) λv s1 ⟨x,H1,I1,r1,q1⟩=>aW (hb pins s1 σ H1 _ I1 q1) λu s2 ⟨y,H2,I2,r2,q2⟩=>
  aW (ho pins s2 σ H2 x y v u _ I2 r1 r2 q2) λc s3 ⟨z,H3,I3,r3,q3⟩=>?_) hm
 obtain ⟨k,e,q3⟩:=uS q3
 subst e
 cases r3
 exact wpAny_truthy_bool ⟨H3,I3,q3⟩
def C6 (r r':R2) (ta tb tc:TE):TE:=λσ H Q=>ta σ H λx H1=>tb σ H1 λy H2=>r x y H2 λz H3=>AE z λk=>
 (if k = true then tc σ H3 λw' H4=>r' y w' H4 Q else Q (.bl false) H3)
theorem Ir (ho:b4 X (compareOp op) r) (ho':b4 X (compareOp op') r') (ha:PE X a ta) (hb:PE X b tb) (hc:PE X c tc)
  (hm:lastMarks [op,op'] [b,c] = false:=by with_unfolding_all rfl):PE X (.Compare a [op,op'] [b,c] pos) (C6 r r' ta tb tc):=by
 intro pins s σ H Q I h
 refine Compare_chain (aW (ha pins s σ H _ I h) λv s1 ⟨x,H1,I1,r1,q1⟩=>chain_link (aW (hb pins s1 σ H1 _ I1 q1) λu s2 ⟨y,H2,I2,r2,q2⟩=>
  aW (ho pins s2 σ H2 x y v u _ I2 r1 r2 q2) λd s3 ⟨z,H3,I3,r3,q3⟩=>?_)) hm
 obtain ⟨k,e,q3⟩:=uS q3
 subst e
 cases r3
 refine wpAny_truthy_bool ?_
 cases k with
 | false=>exact ite_ff ⟨.bl false,H3,I3,rfl,q3⟩
 | true=>exact ite_tt (chain_last (aW (hc pins s3 σ H3 _ I3 q3) λw' s4 ⟨z',H4,I4,r4,q4⟩=>ho' pins s4 σ H4 y z' u w' Q I4 r2 r4 q4))
def FP (K:W.Frag) (x:V) (H:Hp) (k:Bool->Prop):Prop:=match x with
 | .bl b=>k b
 | .non=>k false
 | .int i=>k (i != 0)
 | .str y=>y.length<=sizeLine/\k ((y.length:Int) != 0)
 | .ref p=>(∃ xs,cR K H p xs/\k (!xs.isEmpty))\/(∃ xs,dz K H p xs/\k (!xs.isEmpty))\/∃ kvs,H p = some (.dK kvs)/\k (!kvs.isEmpty)
 | _=>False
theorem GI {K:W.Frag} {x:V} {H:Hp} {k:Bool->Prop} (h:FP K x H k):∃ b,Mu K x H b/\k b:=by
 cases x with
 | bl b=>exact ⟨b,rfl,h⟩
 | non=>exact ⟨false,rfl,h⟩
 | int i=>exact ⟨_,rfl,h⟩
 | str y=>exact ⟨_,⟨h.1,rfl⟩,h.2⟩
 | ref p=>
   rcases h with ⟨xs,h1,h2⟩ | ⟨xs,h1,h2⟩ | ⟨kvs,h1,h2⟩
   ·exact ⟨_,.inl ⟨xs,h1,rfl⟩,h2⟩
   ·exact ⟨_,.inr (.inl ⟨xs,h1,rfl⟩),h2⟩
   ·exact ⟨_,.inr (.inr ⟨kvs,h1,rfl⟩),h2⟩
 | byt _=>exact h.elim
 | flt _=>exact h.elim
 | ty _=>exact h.elim
theorem HM (ha:PE X a ta) (he:∀ whole,isTrue a X.env whole = (do let v ←whole; standAt a.pos; holding [v] (truthy v)):=by intro _; rfl):
  PT X a (λσ H Q=>ta σ H λx H'=>FP X.K x H' λk=>Q k H'):=by
 intro pins s σ H Q I h
 exact isTrue_plain (aW (ha pins s σ H _ I h) λv s1 ⟨x,H1,I1,r1,q1⟩=>Lb pins s1 σ H1 x v Q I1 r1 (GI q1)) (he _)
def OB (ta tb:TE):TE:=λσ H Q=>ta σ H λx H1=>AE x λc=>if c = true then tb σ H1 Q else Q (.bl false) H1
variable {rest:List Expr}
theorem Nj (ha:PE X a ta) (hb:PE X (.BoolOp .And (b::rest) pos) tb):PE X (.BoolOp .And (a::b::rest) pos) (OB ta tb):=by
 intro pins s σ H Q I h
 refine BoolOp_and (aW (ha pins s σ H _ I h) λv s1 ⟨x,H1,I1,r1,q1⟩=>?_)
 obtain ⟨c,rfl,q1⟩:=uS q1
 cases r1
 refine wpAny_truthy_bool ?_
 cases c with
 | true=>exact hb pins s1 σ H1 Q I1 q1
 | false=>exact ⟨.bl false,H1,I1,rfl,q1⟩
theorem Nv:PE X (.UnaryOp .USub (.Constant (.int n) k p2) pos) (tC (.int (-n))):=(Oe Ma xV).imp λσ H Q q=>⟨n,rfl,q⟩
def Hd (K:W.Frag):R2:=λx y H Q=>match x,y with
 | .str z,.int i=>z.length<=sizeLine/\∃ c,fC (Cd z) i = some c/\Q (.str (ao [c])) H
 | .ref p,.int i=>∃ xs v,(cR K H p xs\/dz K H p xs)/\fC xs i = some v/\Q v H
 | _,_=>False
theorem m7.imp (h:m7 X r) (hi:∀ x y H Q,r' x y H Q->r x y H Q):m7 X r':=λvalue slice pins s σ H x y v u Q I rx ry q hs=>h value slice pins s σ H x y v u Q I rx ry (hi _ _ _ _ q) hs
theorem Ng:m7 X (Hd X.K):=KO.imp λx y H Q q=>by
 unfold Hd at q
 split at q
 ·obtain ⟨h1,c,h2,h3⟩:=q
  exact .inr (.inr ⟨_,_,c,rfl,rfl,h1,h2,h3⟩)
 ·obtain ⟨xs,v,h1,h2,h3⟩:=q
  rcases h1 with h1 | h1
  ·exact .inl ⟨_,xs,_,v,rfl,rfl,h1,h2,h3⟩
  ·exact .inr (.inl ⟨_,xs,_,v,rfl,rfl,h1,h2,h3⟩)
 ·exact q.elim
theorem Pl (ha:PE X a ta) (hb:PE X b tb) (hs:jj b:=by intro _ _; rfl):PE X (.Subscript a b pos) (xn (Hd X.K) ta tb):=Nz Ng ha hb hs
def Mj (K:W.Frag):V->Option Int->Option Int->Hp->VK->Prop:=λx lo hi H Q=>match x with
 | .str z=>z.length<=sizeLine/\Q (.str (ao (nR (Cd z) lo hi))) H
 | .ref a=>∃ xs,cR K H a xs/\∀ p,H p = none->Q (.ref p) (upd H p (.lst (kU xs lo hi)))
 | _=>False
theorem mF.imp (h:mF X r) (hi:∀ x lo hi H Q,r' x lo hi H Q->r x lo hi H Q):mF X r':=λpins s σ H x v vl vu lo hi' sl Q I rx hs pl pu q=>h pins s σ H x v vl vu lo hi' sl Q I rx hs pl pu (hi _ _ _ _ _ q)
theorem N3:mF X (Mj X.K):=(Mz.or IP).imp λx lo hi H Q q=>by
 unfold Mj at q
 split at q
 ·exact .inl ⟨_,rfl,q.1,q.2⟩
 ·obtain ⟨xs,h1,h2⟩:=q
  exact .inr ⟨_,xs,rfl,h1,h2⟩
 ·exact q.elim
def N0 (t:TE):TO:=λσ H Q=>t σ H λx H1=>match x with
 | .int i=>Q (some i) H1
 | _=>False
theorem Lw (h:PE X e te):PO X (some e) (N0 te):=by
 intro pins s σ H Q I hw
 rw [evalPart_some]
 refine aW (h pins s σ H _ I hw) λu s1 ⟨x,H1,I1,r1,q1⟩=>?_
 cases x with
 | int i=>
   obtain ⟨t,rfl⟩:=r1
   exact ⟨some i,H1,I1,.int i t,q1⟩
 | _=>exact q1.elim
def FV (K:W.Frag):List V->Hp->VK->Prop:=λxs H Q=>match xs with
 | [.str z]=>z.length<=sizeLine/\Q (.int z.length) H
 | [.ref p]=>∃ ys,(cR K H p ys\/dz K H p ys)/\Q (.int ys.length) H
 | _=>False
theorem bQ:cq X (.builtin "len") (FV X.K):=(yR.or yN).imp λxs H Q q=>by
 unfold FV at q
 split at q
 ·exact .inl ⟨_,rfl,q.1,q.2⟩
 ·obtain ⟨ys,h1,h2⟩:=q
  exact .inr ⟨_,ys,rfl,h1,h2⟩
 ·exact q.elim
def wZ (K:W.Frag) (f:List Bool->Bool):List V->Hp->VK->Prop:=λxs H Q=>match xs with
 | [.ref p]=>∃ bs:List Bool,cR K H p (bs.map V.bl)/\Q (.bl (f bs)) H
 | _=>False
theorem nI (hc:X.calm = true:=by rfl):cq X (.builtin "all") (wZ X.K λbs=>bs.all id):=(FY hc).imp λxs H Q q=>by
 unfold wZ at q
 split at q
 ·obtain ⟨bs,h1,h2⟩:=q
  exact ⟨_,bs,rfl,h1,h2⟩
 ·exact q.elim
theorem Cr (hc:X.calm = true:=by rfl):cq X (.builtin "any") (wZ X.K λbs=>bs.any id):=(Fz hc).imp λxs H Q q=>by
 unfold wZ at q
 split at q
 ·obtain ⟨bs,h1,h2⟩:=q
  exact ⟨_,bs,rfl,h1,h2⟩
 ·exact q.elim
def uB (K:W.Frag):List V->Hp->VK->Prop:=λxs H Q=>match xs with
 | [.ref p]=>∃ ys,(cR K H p ys\/dz K H p ys)/\∀ l,H l = none->Q (.ref l) (upd H l (.lst ys))
 | _=>False
theorem hZ:cq X (.type "list") (uB X.K):=xA.imp λxs H Q q=>by
 unfold uB at q
 split at q
 ·obtain ⟨ys,h1,h2⟩:=q
  exact ⟨_,ys,rfl,h1,h2⟩
 ·exact q.elim
def gG (a b:String):Bool:=a == b || (a == "bool" && b == "int")
theorem D8 {K:W.Frag} {k n:String} (hk:k∈["bool","int","str","NoneType","list","tuple","dict"]) (hn:n∈["bool","int","str","list","tuple","dict"]):PySem.W.kitOne K (.type k) (.type n) = some (gG k n):=by
 have key:∀ k'∈["bool","int","str","NoneType","list","tuple","dict"],∀ n'∈["bool","int","str","list","tuple","dict"],(if (Value.type k' == Value.type n') = true then some true else if PySem.W.kitMeta n' = true then PySem.W.subIn [] (.type k') (.type n') else none) = some (gG k' n'):=by
  decide +kernel
 exact key k hk n hn
theorem Gn {ns:List String}:∀ {us:List Value},Vals (ns.map V.ty) us->us = ns.map Value.type:=by
 induction ns with
 | nil=>intro us r; cases r; rfl
 | cons b r ih=>
   intro us h
   rw [List.map_cons] at h
   cases h with
   | cons h1 h2=>
     have e:_ = Value.type b:=h1
     rw [e,ih h2]; rfl
theorem vA {K:W.Frag} {k:String} (hk:k∈["bool","int","str","NoneType","list","tuple","dict"]):∀ {ns:List String},(∀ n∈ns,n∈["bool","int","str","list","tuple","dict"])->
  PySem.W.kitAny K (.type k) (ns.map Value.type) = some (ns.any (gG k))
 | [],_=>rfl
 | n::r,h=>by
   have e:=D8 (K:=K) hk (h n List.mem_cons_self)
   have ih:=vA (K:=K) hk (ns:=r) λm hm=>h m (List.mem_cons_of_mem _ hm)
   show (match PySem.W.kitOne K (.type k) (.type n) with
    | some true=>some true
    | some false=>PySem.W.kitAny K (.type k) (r.map Value.type)
    | none=>none) = _
   rw [e]
   cases q:gG k n with
   | true=>simp [q]
   | false=>simp [q,ih]
def NR (ta:TA):TI:=λσ H R=>ta σ H λvs H1=>match vs with
 | [.int j]=>(-(2 ^ 62)<=j/\j < 2 ^ 62)/\R (E7 0 j.toNat) H1
 | _=>False
def Ny (ta:TA):TI:=λσ H R=>ta σ H λvs H1=>match vs with
 | [.int i,.int j]=>(-(2 ^ 62)<=i/\i < 2 ^ 62/\-(2 ^ 62)<=j/\j < 2 ^ 62)/\R (E7 i (j - i).toNat) H1
 | _=>False
theorem GJ (hm:X.mg "range" = none) (ha:PA X [a] t) (hg:Gl X "range":=by rfl) (hs:starEach [a] X.env = [(false,eval a X.env)]:=by rfl):PI X tg (.Call (.Name "range" p) [a] [] pos) (NR t):=by
 intro pins s σ H R I h
 refine Call_ (kR I hg hm boot_range (PyProof.Rows.callWith_type1 (aW (ha pos pins s σ H _ I h) λus s1 ⟨vs,H1,I1,r1,q1⟩=>?_) hs rfl))
 dsimp only at q1
 split at q1
 ·obtain ⟨⟨q1,q2⟩,q⟩:=q1
  cases r1 with
  | cons r rr=>
    cases rr
    obtain ⟨t,rfl⟩:=r
    exact call_range_1 (xk I1 (by omega) (by omega) q1 q2 (by simpa using q))
 ·exact q1.elim
theorem Fm (hm:X.mg "range" = none) (ha:PA X [a,b] t) (hg:Gl X "range":=by rfl) (hs:starEach [a,b] X.env = [(false,eval a X.env),(false,eval b X.env)]:=by rfl) (hs2:starEach [b] X.env = [(false,eval b X.env)]:=by rfl):
  PI X tg (.Call (.Name "range" p) [a,b] [] pos) (Ny t):=by
 intro pins s σ H R I h
 refine Call_ (kR I hg hm boot_range (PyProof.Rows.callWith_type1 (aW (ha pos pins s σ H _ I h) λus s1 ⟨vs,H1,I1,r1,q1⟩=>?_) (by rw [hs,hs2]) (by rw [hs2]; rfl)))
 dsimp only at q1
 split at q1
 ·obtain ⟨⟨q1,q2,q3,q4⟩,q⟩:=q1
  cases r1 with
  | cons r rr=>
    cases rr with
    | cons r' rr=>
      cases rr
      obtain ⟨t,rfl⟩:=r
      obtain ⟨t',rfl⟩:=r'
      exact call_range_2 (xk I1 q1 q2 q3 q4 q)
 ·exact q1.elim
def Nr (K:W.Frag) (tl:TE):TI:=λσ H R=>tl σ H λx H1=>match x with
 | .str z=>R (Fe z) H1
 | .ref a=>(∃ xs,cR K H1 a xs/\R (Hj K a) H1)\/(∃ xs,dz K H1 a xs/\R (Hg K a) H1)
 | _=>False
theorem Er (hl:PE X l tl):PI X tg l (Nr X.K tl):=by
 intro pins s σ H R I h
 have key:PI X tg l (λσ H R=>tl σ H λx H1=>match x with
   | .str z=>R (Fe z) H1
   | .ref a=>(∃ xs,cR X.K H1 a xs/\R (Hj X.K a) H1)\/(∃ xs,dz X.K H1 a xs/\R (Hg X.K a) H1)
   | _=>False):=by
  intro pins s σ H R I h
  refine aW (hl pins s σ H _ I h) λv s1 ⟨x,H1,I1,r1,q1⟩=>?_
  have one:∀ {wi:TE->TI},(∀ {l:Expr} {tl:TE},PE X l tl->PI X tg l (wi tl))->True:=λ_=>trivial
  cases x with
  | str z=>
    obtain ⟨t,rfl⟩:=r1
    have fin:∀ ty,(ty = "str_ascii_iterator"\/ty = "str_iterator")->Kw X pins σ tg R (.ref s1.heap.objs.size) { s1 with heap:=s1.heap.push { cls:=.type ty,data:=.fields #[.str z t,.int 0 0] } }:=by
     intro ty hty
     refine ⟨s1.heap.objs.size,[s1.heap.objs.size],_,_,H1,rfl,I1.kept (t':=s1.toks) λb o e=>Heap.get?_push_of_some _ e,G1 _ z t ty hty,⟨_,Heap.get?_push_size _ rfl,rfl,rfl⟩,λb hb=>?_,q1⟩
     have e:b = s1.heap.objs.size:=by simpa using hb
     subst e
     exact I1.rj (Nat.le_refl _) (I1.bt.fresh (Nat.le_refl _))
    cases ha:z.cps.all (·< 128)
    ·exact wpAny_pyIter_wide ha (fin _ (.inr rfl))
    ·exact wpAny_pyIter_ascii ha (fin _ (.inl rfl))
  | ref a=>
    cases r1
    rcases q1 with ⟨xs,hq,q⟩ | ⟨xs,hq,q⟩
    ·obtain ⟨its,rv,p,hz⟩:=I1.list hq
     refine wpAny_pyIter_list p.isList ?_
     refine ⟨s1.heap.objs.size,[s1.heap.objs.size],_,_,H1,rfl,I1.kept (t':=s1.toks) λb o e=>Heap.get?_push_of_some _ e,Dh a _,⟨_,Heap.get?_push_size _ rfl,rfl,rfl⟩,λb hb=>?_,q⟩
     have e:b = s1.heap.objs.size:=by simpa using hb
     subst e
     exact I1.rj (Nat.le_refl _) (I1.bt.fresh (Nat.le_refl _))
    ·obtain ⟨its,rv,p,hz⟩:=I1.tuple hq
     refine wpAny_pyIter_tuple (show s1.heap.IsTuple a its.toArray from p) ?_
     refine ⟨s1.heap.objs.size,[s1.heap.objs.size],_,_,H1,rfl,I1.kept (t':=s1.toks) λb o e=>Heap.get?_push_of_some _ e,BN a _,⟨_,Heap.get?_push_size _ rfl,rfl,rfl⟩,λb hb=>?_,q⟩
     have e:b = s1.heap.objs.size:=by simpa using hb
     subst e
     exact I1.rj (Nat.le_refl _) (I1.bt.fresh (Nat.le_refl _))
  | _=>exact q1.elim
 exact key pins s σ H R I h
end
end L2
end
section
namespace L2
open PySem PySem.Spec PyProof.Rows
def HasDef (K:W.Frag) (mg:Str->Option Value) (x:Str) (st:Stmt) (ps:List Str):Prop:=∃ f fd,mg x = some (.ref f)/\qI K x x st f fd/\∀ us:List Value,us.length = ps.length->bindArgs fd ⟨us,[]⟩ = pure (ps.zip us)
def Callee (P:Program) (w:World) (K:W.Frag) (mg:Str->Option Value) (base:Heap) (CX:jd) (x:Str) (k:Nat) (ps:List Str) (sp:Sp):Prop:=
 ∃ f fd,mg x = some (.ref f)/\PySem.W.keepIn K (.ref f) = true/\Binds K fd ps []/\dG P w K mg base CX k f fd ps sp
section
variable {P:Program} {w:World} {K:W.Frag} {mg:Str->Option Value} {base:Heap} {x:Str} {st:Stmt} {N ps:List Str} {k:Nat} {sp:Sp}
end
theorem HasDef.none {P:Program} {w:World} {K:W.Frag} {mg:Str->Option Value} {base:Heap} {CX:jd} {x:Str} {st:Stmt} {ps:List Str} (F:HasDef K mg x st ps):Callee P w K mg base CX x 0 ps (λ_ _ _ _=>False):=by
 obtain ⟨f,fd,h1,h2,h3⟩:=F
 exact ⟨f,fd,h1,h2.kp,.all h3,λ_ _ _ _ h=>h.elim,λ_ _ _ _ _ _ _ _ _ _ _ _ _ h=>h.elim⟩
theorem Callee.imp {P:Program} {w:World} {K:W.Frag} {mg:Str->Option Value} {base:Heap} {CX:jd} {x:Str} {k:Nat} {ps:List Str} {sp sp':Sp} (C:Callee P w K mg base CX x k ps sp) (h:∀ vs H Q E,sp' vs H Q E->sp vs H Q E):Callee P w K mg base CX x k ps sp':=by
 obtain ⟨f,fd,h1,h2,h3,h4⟩:=C
 exact ⟨f,fd,h1,h2,h3,h4.imp h⟩
section
theorem Kx (C:Callee X.prog X.w X.K X.mg X.base tO x j ps sp) (hr:bI k X.A) (ha:PA X (e::es) t) (hj:j<=k:=by first | decide | omega) (hg:Gl X x:=by rfl) (hdb:(x == ("__debug__":Str)) = false:=by decide)
  (he:starEach (e::es) X.env = (false,eval e X.env)::starEach es X.env:=by rfl) (hpl:(backTo pos (starEach es X.env)).any (·.1) = false:=by rfl):
  PE X (.Call (.Name x p) (e::es) [] pos) (wF sp [] E0 t):=by
 obtain ⟨f,fd,h1,h2,h3,h4⟩:=C
 exact Aw h4 (hr.mono hj) hg h1 h2 h3 .nil Nx ha hdb he hpl
def mM (scope sc:Scope) (N:List Str) (nt:Nat):Bool:=
 scope.names.all (λy=>!(y.2 == .cell)) && scope.names.all (λy=>!(y.2 == .free) || sc.names.lookup y.1 == some .cell || sc.names.lookup y.1 == some .free) &&
 scope.names.all (λy=>!(y.2 == .local) || scope.names.lookup y.1 == some .local) && (N.drop nt).all (λx=>scope.names.lookup x == some .free)
theorem vD (h:mM scope sc N nt = true):(∀ y∈scope.names,y.2≠.cell)/\(∀ y∈scope.names,y.2 = .free->sc.names.lookup y.1 = some .cell\/sc.names.lookup y.1 = some .free)/\
  (∀ y∈scope.names,y.2 = .local->scope.names.lookup y.1 = some .local)/\(∀ x∈N.drop nt,scope.names.lookup x = some .free):=by
 unfold mM at h
 simp only [Bool.and_eq_true,List.all_eq_true] at h
 obtain ⟨⟨⟨h1,h2⟩,h3⟩,h4⟩:=h
 refine ⟨λy hy e=>?_,λy hy e=>?_,λy hy e=>?_,λx hx=>by simpa using h4 x hx⟩
 ·have:=h1 y hy; rw [e] at this; exact absurd this (by decide)
 ·have:=h2 y hy
  simp only [Bool.or_eq_true,beq_iff_eq,Bool.not_eq_true',beq_eq_false_iff_ne] at this
  rcases this with (z | z) | z
  ·exact absurd e z
  ·exact .inl z
  ·exact .inr z
 ·have:=h3 y hy
  simp only [Bool.or_eq_true,beq_iff_eq,Bool.not_eq_true',beq_eq_false_iff_ne] at this
  rcases this with z | z
  ·exact absurd e z
  ·exact z
theorem L5 (sc:Scope) (ok:mM scope sc N nt = true) (hi:PI X tg iter wi) (body:∀ cl C s₀ H₀ ex,PG (cf X N scope cl C s₀ H₀ ex) tg g/\oV (cf X N scope cl C s₀ H₀ ex) ifs tc'/\PE (cf X N scope cl C s₀ H₀ ex) elt te)
  (hsc:X.env.scope = sc:=by rfl) (hc:X.calm = true:=by rfl) (hk:scope.kind = .function:=by rfl) (hN:N.length = nt+fr.length:=by rfl) (hfr:fr.map (λi=>X.N[i]?) = (N.drop nt).map some:=by rfl)
  (hs:∀ x,foldedSetIterable iter X.env x = pure x:=by intro _; rfl):PE X (.ListComp elt [⟨tg,iter,ifs,0⟩] scope pos) (qa wi nt fr g tc' te):=by
 obtain ⟨h1,h2,h3,h4⟩:=vD ok
 subst hsc
 exact JS hc hi hk h1 h2 h3 hN hfr h4 body hs
theorem EO (sc:Scope) (hND:X.N.Nodup) (ok:mM scope sc N nt = true) (hi:PI X tg iter wi) (body:∀ cl C s₀ H₀ ex,PG (cf X N scope cl C s₀ H₀ ex) tg g/\oV (cf X N scope cl C s₀ H₀ ex) ifs tc'/\PE (cf X N scope cl C s₀ H₀ ex) elt te)
  (hy:X.N[i]? = some y:=by rfl) (hx:X.env.scope.names.lookup y = some .local:=by rfl)
  (hsc:X.env.scope = sc:=by rfl) (hc:X.calm = true:=by rfl) (hk:scope.kind = .function:=by rfl) (hN:N.length = nt+fr.length:=by rfl) (hfr:fr.map (λi=>X.N[i]?) = (N.drop nt).map some:=by rfl)
  (hsw:swapsWith (.ListComp elt [⟨tg,iter,ifs,0⟩] scope pos) (some (.Name y py)) spos.line X.env = pure true:=by rfl)
  (han:X.dZ = none\/i∈X.iW:=by first | exact .inl rfl | exact .inr (by decide) | assumption)
  (hs:∀ x,foldedSetIterable iter X.env x = pure x:=by intro _; rfl):PS X (.Assign [.Name y py] (.ListComp elt [⟨tg,iter,ifs,0⟩] scope pos) spos) (uQ (qa wi nt fr g tc' te) (la i)):=by
 obtain ⟨h1,h2,h3,h4⟩:=vD ok
 subst hsc
 exact Ce hND hy hx hc hi hk h1 h2 h3 hN hfr h4 body hsw han hs
theorem PS.imp {st:Stmt} {t t':TS} (h:PS X st t) (hi:∀ D σ H,t' D σ H->t D σ H):PS X st t':=λpins s σ H D I q=>h pins s σ H D I (hi D σ H q)
theorem BR (hN:X.N.Nodup) (he:PE X e te) (hi:X.N[i]? = some x:=by rfl) (hx:Loc X.env.scope x:=by first | exact Or.inl rfl | exact Or.inr rfl) (hs:swapsWith e (some (.Name x pos')) pos.line X.env = pure false:=by rfl) (han:X.dZ = none\/i∈X.iW:=by first | exact .inl rfl | exact .inr (by decide) | assumption)
  (hf:X.fn x = true\/X.env.scope.names.lookup x = some .local:=by first | exact .inl rfl | exact .inr rfl | assumption):PS X (.Assign [.Name x pos'] e pos) (uQ te (la i)):=Mo hN hi hx he hs han hf
theorem Le (hN:X.N.Nodup) (hi:X.N[i]? = some x:=by rfl) (hx:Loc X.env.scope x:=by first | exact Or.inl rfl | exact Or.inr rfl) (han:X.dZ = none\/i∈X.iW:=by first | exact .inl rfl | exact .inr (by decide) | assumption) (hf:X.fn x = true\/X.env.scope.names.lookup x = some .local:=by first | exact .inl rfl | exact .inr rfl | assumption):PG X (.Name x pos) (la i):=Jv hN hi hx han hf
end
section
variable {X:Cx} {a b c e o:Expr} {es:List Expr} {ta tb tc te to:TE} {t:TA} {pos p2:Pos} (K:W.Frag)
def LN (K:W.Frag) (n:Nat) (t:vf):TG:=λv σ H Q=>match v with
 | .ref a=>∃ xs,dz K H a xs/\xs.length = n/\t xs σ H Q
 | _=>False
theorem PG.imp {e:Expr} {t t':TG} (h:PG X e t) (hi:∀ v σ H Q,t' v σ H Q->t v σ H Q):PG X e t':=λpins s σ H v u Q I r q=>h pins s σ H v u Q I r (hi _ _ _ _ q)
theorem NQ {es:List Expr} {k:Nat} {t:vf} {n:Nat} (h:sD X es t) (hc:X.calm = true:=by rfl) (hn:(assignEach es X.env).length = n:=by rfl) (hst:(assignEach es X.env).findIdx? (·.1) = none:=by rfl) (hK:X.K = K:=by rfl):PG X (.Tuple es k pos) (LN K n t):=by
 subst hK
 exact (Kr hc h hn hst).imp λv σ H Q q=>by
  unfold LN at q
  split at q
  ·obtain ⟨xs,h1,h2,h3⟩:=q
   exact ⟨_,xs,rfl,h1,h2,h3⟩
  ·exact q.elim
theorem LJ {name:Str} {apos cpos:Pos} {T id:String} {r:V->List V->Hp->VK->Prop} (pa:PlainAttrs T) (slot:Slot T name id) (hty:typeOf (.builtin id) = pure (.type "method_descriptor")) (hm:Oo X id r) (ho:PE X o to) (ha:PA X (e::es) t)
  (hK:X.K = K:=by rfl) (hbase:attributeBase o name X.env (eval o X.env) = eval o X.env:=by rfl)
  (hfew:((backTo cpos (starEach (e::es) X.env)).all (λx=>!x.1) && (backToKw cpos (keywordEach [] X.env)).all (λx=>x.1.isSome)
   && decide ((e::es).length+ ([]:List Keyword).length+ (if ([]:List Keyword).isEmpty then 0 else 1) < 30)) = true:=by rfl)
  (hline:(apos.endLine == cpos.line) = true:=by rfl) (hs:starEach (e::es) X.env = (false,eval e X.env)::starEach es X.env:=by rfl) (hplain:(backTo cpos (starEach es X.env)).any (·.1) = false:=by rfl):
  PE X (.Call (.Attribute o name apos) (e::es) [] cpos) (Lc K T r to t):=by subst hK; exact NU pa slot hty hm ho ha hbase hfew hline hs hplain
end
theorem De {K:W.Frag} {mg:Str->Option Value} {h:Heap} {x:Str} {st:Stmt} {ps:List Str} {f:Addr} {oc:Value} {od an:Option Addr} {osl:Array (Option Value)} {kV doc pm cdv ct:Value} (X:K.In h) (G:h.Ns mainGlobals mg)
  (a:PySem.W.nsIn K mainGlobals x = some (some (.ref f))) (l:K.lookup f = some ⟨oc,od,.func (PySem.W.fnOf x x (gP st) (c9 st) (ah st) .none kV doc pm an cdv ct),osl⟩) (c:PySem.W.codeIn K cdv x = true) (k:PySem.W.keepIn K (.ref f) = true)
  (hb:∀ (kV doc pm:Value) (an:Option Addr) (cdv ct:Value) (us:List Value),us.length = ps.length->bindArgs (PySem.W.fnOf x x (gP st) (c9 st) (ah st) .none kV doc pm an cdv ct) ⟨us,[]⟩ = pure (ps.zip us)):HasDef K mg x st ps:=by
 have F:=zd (st:=st) l c k
 exact ⟨f,_,PySem.W.mg_of X G a,F,hb _ _ _ _ _ _⟩
theorem II {K:W.Frag} {mg:Str->Option Value} {h:Heap} {x:Str} {u:Value} {v:V} (X:K.In h) (G:h.Ns mainGlobals mg) (a:PySem.W.nsIn K mainGlobals x = some (some u)) (r:RelV v u):wG mg x v:=⟨u,PySem.W.mg_of X G a,r⟩
end L2
end
section
namespace L2
open PySem PySem.Spec PyProof.Rows
theorem aK.tup {K:W.Frag} {H H':Hp} {a:Addr} {xs:List V} (e:aK H H') (h:dz K H a xs):dz K H' a xs:=by
 rcases h with (h | ⟨o,h⟩) | h
 ·exact .inl (.inl (e _ _ h))
 ·exact .inl (.inr ⟨o,e _ _ h⟩)
 ·exact .inr h
end L2
end
section
namespace L2
open PySem PySem.Spec PyProof.Rows
section
end
end L2
end
section
namespace L2
open PySem PySem.Spec PyProof.Rows
structure ij (P:Program) (w:World) (l:List Env) (H:Hp) (s:Shared) (ea:Addr) (cls:Value) (H':Hp) (B:Heap) (a0:Value) (s':Shared):Prop where
 os:s'.os = s.os
 bare:AllBare s'.gens
 qz:Heap.FlyingW B l ea cls a0 s'.heap
 bt:eX P w H' B
 keep:∀ b o,s.heap.get? b = some o->H b = none->b∉d8 l->B.get? b = some o
 slot:∀ b o,s.heap.get? b = some o->H b = none->b∈d8 l->∃ sl,s'.heap.get? b = some { o with slots:=sl }
 free:∀ b o,s.heap.get? b = some o->H b = none->H' b = none
 there:∀ b o,s.heap.get? b = some o->b∉d8 l->∃ o',B.get? b = some o'
 hU:∀ b xs,H b = some (.tup xs)->H' b = some (.tup xs)
 gC:∀ b o u,H b = some (.dt o u)->H' b = some (.dt o u)
 hG:∀ b ps,H b = some (.tbl ps)->∃ more,H' b = some (.tbl (ps++more))
def dF (P:Program) (w:World):jd:=λl H s E e s'=>∃ ea cls H' B a0,e = .ref ea/\ij P w l H s ea cls H' B a0 s'/\E cls none H'
section
theorem mY:b∈d8 l↔∃ env∈l,env.frame = some b:=by unfold d8; exact List.mem_filterMap
theorem ij.yn (x:ij P w l H s ea cls H' B a0 s') (hb:b∈d8 l) (e:s'.heap.get? b = some o):∀ vs,o.data≠.fields vs:=by
 obtain ⟨_,o',ho',hd⟩:=x.qz.2.2.1.mem (show b∈l.filterMap (·.frame) from hb)
 rw [e] at ho'; cases ho'; exact hd
theorem ij.on (x:ij P w l H s ea cls H' B a0 s') (f:Heap.FlyingW B l ea cls a0 h'') (u:s'.heap.UpToSlots h''):ij P w l H s ea cls H' B a0 { s' with heap:=h'' }:=
 ⟨x.os,x.bare,f,x.bt,x.keep,λb o e n hb=>by
   obtain ⟨sl,e1⟩:=x.slot b o e n hb
   obtain ⟨sl',e2⟩:=u b _ e1 (x.yn hb e1)
   exact ⟨sl',e2⟩,x.free,x.there,x.hU,x.gC,x.hG⟩
theorem ij.un (x:ij P w l H s ea cls H' B a0 s') (hf:∀ b∈d8 l,H b = none):Un (d8 l) [] H H' s.heap s'.heap:=
 ⟨λb o e n hb _=>x.qz.1 b o (x.keep b o e n hb),λb o e n hb _=>x.slot b o e n hb,λb o e n _=>x.free b o e n,λb o e _=>by
  by_cases hb:b∈d8 l
  ·obtain ⟨sl,q⟩:=x.slot b o e (hf b hb) hb; exact ⟨_,q⟩
  ·obtain ⟨o',q⟩:=x.there b o e hb; exact ⟨o',x.qz.1 b o' q⟩,x.hU,x.gC,x.hG⟩
end
section
theorem ij.inv (I:Inv X pins σ H s) (x:ij X.prog X.w X.stack H s ea cls H' B a0 s'):Inv X pins σ H' s':=
 I.HU (ch:=[]) x.os (x.un I.p7) (x.bt.kept λb u e=>x.qz.1 b u e) x.bare (λb z=>absurd z (by simp))
end
section
variable {CX:jd} {P:Program} {w:World} {K:W.Frag} {mg:Str->Option Value} {base:Heap} {N:List Str} {qual:Str} {scope:Scope} {f:Addr} {cd:Value} {A:Around} {outer:List Env} {s:Shared} {H:Hp} {E:XK}
structure PX (X:Cx) (E:XK):Prop where
 pass:Passes (dF X.prog X.w) X E
 own:PassesOwn (model X.prog X.w) X.A X.env X.xe
structure PM (X:Cx) (E:XK):Prop where
 made:∀ (pins:List (Addr×Obj)) (σ:St) (H:Hp) (s:Shared) (h':Heap) (ea C:Addr) (args:List Value),Inv X pins σ H s->Heap.MadeExcOf s.heap h' ea (.ref C) args->E (.ref C) none H->X.xe (.ref ea) { s with heap:=h' }
theorem vJ (I:Inv X pins σ H1 s1) (hex:X.ex = []) (hs:X.stack = X.env::X.outer) (hf:X.env.frame = some X.env.locals)
  (os:s'.os = s1.os) (bare:AllBare s'.gens) (qz:Heap.FlyingW B X.outer ea cls a0 s'.heap) (bt:eX X.prog X.w H' B)
  (keep:∀ b o,s1.heap.get? b = some o->H1 b = none->b∉d8 X.stack->B.get? b = some o)
  (slot:∀ b o,s1.heap.get? b = some o->H1 b = none->b∈d8 X.outer->∃ sl,s'.heap.get? b = some { o with slots:=sl })
  (free:∀ b o,s1.heap.get? b = some o->H1 b = none->H' b = none) (there:∀ b o,s1.heap.get? b = some o->b∉d8 X.stack->∃ o',B.get? b = some o')
  (hU:∀ b xs,H1 b = some (.tup xs)->H' b = some (.tup xs)) (gC:∀ b o u,H1 b = some (.dt o u)->H' b = some (.dt o u)) (hG:∀ b ps,H1 b = some (.tbl ps)->∃ more,H' b = some (.tbl (ps++more))):
  ij X.prog X.w X.outer X.H₀ X.s₀ ea cls H' B a0 s':=by
 have kC:∀ b:Addr,b∉X.ex:=λb z=>by rw [hex] at z; cases z
 have nin:∀ b o,X.s₀.heap.get? b = some o->b∉d8 X.outer->b∉d8 X.stack:=λb o e hb hm=>by
  rw [hs] at hm
  unfold d8 at hm
  rw [List.filterMap_cons,hf] at hm
  rcases List.mem_cons.mp hm with z | z
  ·exact absurd (Heap.lt_size e) (by rw [z]; exact Nat.not_lt.mpr I.ok.above)
  ·exact hb z
 refine ⟨os.trans I.os,bare,qz,bt,λb o e n hb=>keep b o (I.base.keep b o e n hb (kC b)) (I.base.free b o e n (kC b)) (nin b o e hb),λb o e n hb=>?_,λb o e n=>?_,λb o e hb=>?_,λb xs q=>hU b xs (I.base.hU b xs q),λb o u q=>gC b o u (I.base.gC b o u q),λb ps q=>?_⟩
 ·obtain ⟨sl,e1⟩:=I.base.slot b o e n hb (kC b)
  obtain ⟨sl',e2⟩:=slot b _ e1 (I.base.free b o e n (kC b)) hb
  exact ⟨sl',e2⟩
 ·obtain ⟨o',e1⟩:=I.base.there b o e (kC b)
  exact free b o' e1 (I.base.free b o e n (kC b))
 ·obtain ⟨o',e1⟩:=I.base.there b o e (kC b)
  exact there b o' e1 (nin b o e hb)
 ·obtain ⟨m1,e1⟩:=I.base.hG b ps q
  obtain ⟨m2,e2⟩:=hG b _ e1
  exact ⟨m1++m2,by rw [e2,Array.append_assoc]⟩
theorem az:PX (fT (dF P w) P w K mg base N qual scope f cd A outer s H E) E where
 own:=PassesOwn.leaving
 pass:=λpins σ H1 s1 e s' I ⟨ea,cls,H',B,a0,he,x,q⟩=>by
  subst he
  show wpAny _ _ (leaving _ _) _ _ _
  refine wpAny_leaves_onW (L:=(fT (dF P w) P w K mg base N qual scope f cd A outer s H E).env.locals) (outer:=outer) (base:=B) I.ok.frames rfl x.qz λh' fl u=>?_
  refine ⟨ea,cls,H',B,a0,rfl,?_,q⟩
  refine vJ (s':={ s' with heap:=h' }) I rfl rfl rfl x.os x.bare fl x.bt x.keep (λb o e n hb=>?_) x.free x.there x.hU x.gC x.hG
  have hm:b∈d8 (fT (dF P w) P w K mg base N qual scope f cd A outer s H E).stack:=by
   obtain ⟨env,h1,h2⟩:=mY.mp hb
   exact mY.mpr ⟨env,List.mem_cons_of_mem _ h1,h2⟩
  obtain ⟨sl,e1⟩:=x.slot b o e n hm
  obtain ⟨sl',e2⟩:=u b _ e1 (x.yn hm e1)
  exact ⟨sl',e2⟩
theorem d9:PM (fT (dF P w) P w K mg base N qual scope f cd A outer s H E) E where
 made:=λpins σ H1 s1 h1 ea C args I mk q=>by
  let X:=fT (dF P w) P w K mg base N qual scope f cd A outer s H E
  show wpAny _ _ (leaving _ _) _ _ _
  have hB:∀ b o,(PySem.W.hideAll s1.heap (d8 X.stack)).get? b = some o->s1.heap.get? b = some o:=λb o e=>PySem.W.of_hideAll _ e
  refine wpAny_leaves_madeW (L:=X.env.locals) (outer:=outer) (base:=PySem.W.hideAll s1.heap (d8 X.stack)) (h:=s1.heap) I.ok.frames rfl (λb o e=>hB b o e)
   (PySem.W.funFrames_hide I.stack λenv he a ha=>mY.mpr ⟨env,he,ha⟩) mk λh' t fl _ _ u=>?_
  refine ⟨ea,.ref C,H1,PySem.W.hideAll s1.heap (d8 X.stack),.ref t,rfl,?_,q⟩
  refine vJ (s':={ s1 with heap:=h' }) I rfl rfl rfl rfl I.bare fl (λa o e=>?_) (λb o e n hb=>PySem.W.hideAll_get _ e hb) (λb o e n hb=>?_) (λ_ _ _ n=>n) (λb o e hb=>⟨o,PySem.W.hideAll_get _ e hb⟩) (λ_ _ q=>q) (λ_ _ _ q=>q) (λ_ ps q=>⟨#[],by rw [q]; simp⟩)
  ·refine (I.bt a o e).nP (λc v hc z=>PySem.W.hideAll_get _ z λhm=>?_) (λ_ z=>z) λ_ _ z=>z
   have n:=I.p7 c hm
   rcases hc with z | z
   ·rw [z,e] at n; cases n
   ·rw [z] at n; cases n
  ·have hm:b∈d8 X.stack:=by
    obtain ⟨env,h1,h2⟩:=mY.mp hb
    exact mY.mpr ⟨env,List.mem_cons_of_mem _ h1,h2⟩
   obtain ⟨_,o',ho',hd⟩:=I.stack.mem (show b∈X.stack.filterMap (·.frame) from hm)
   rw [e] at ho'; cases ho'
   exact u b o (mk.keeps b o e) hd
end
abbrev lO:List Value:=[.type "ValueError",.type "Exception",.type "BaseException",.type "object"]
structure pI (K:W.Frag) (mg:Str->Option Value) (x:Str) (C:Addr):Prop where
 bound:mg x = some (.ref C)
 cls:PySem.W.excIn K C lO "ValueError.__new__" = true
def ClsAt (h:Heap) (C:Addr) (mro:List Value):Prop:=∃ N nm q bs hdct sn sub ab col dd k0 k1 k2 k3 k5 mN,h.get? C = some (excClassObj nm q C N bs mro hdct sn sub ab col dd k0 k1 k2 k3 k5 "ValueError.__new__")/\h.Ns N mN/\mN "__init__" = none/\OwnTail h lO mro
theorem rX {K:W.Frag} {h:Heap} {C:Addr} (X:K.In h) (q:PySem.W.excIn K C lO "ValueError.__new__" = true):∃ mro,ClsAt h C mro:=by
 unfold PySem.W.excIn at q
 split at q
 case h_2=>exact absurd q (by simp)
 case h_1 o dd cd sl lk=>
  split at q
  case h_2=>exact absurd q (by simp)
  case h_1 C' mro y0 y1 y2 y3 n y5 em es=>
   rw [Bool.and_eq_true,Bool.and_eq_true,Bool.and_eq_true,Bool.and_eq_true,Bool.and_eq_true] at q
   obtain ⟨⟨⟨⟨⟨q1,q2⟩,q3⟩,q4⟩,q5⟩,q6⟩:=q
   have e1:C' = C:=by simpa using q1
   have e2:n = "ValueError.__new__":=by simpa using q2
   cases cd with
   | mk nm bs mr ns qn hd sn sub ab col del=>
     have e3:del = false:=by simpa using q3
     have e4:mr = .ref C'::mro:=em
     have e5:sl = #[y0,y1,y2,y3,some (.builtin n),y5]:=Array.ext' es
     subst e1 e2 e3 e4 e5
     refine ⟨mro,ns,nm,qn,bs,hd,sn,sub,ab,col,dd,y0,y1,y2,y3,y5,_,X _ _ lk,.of_isNs (PySem.W.isNs_of_in X q5),PySem.W.nsMap_none_of_in X q5 (by simpa using q6),PySem.W.tail_of_in X q4⟩
def Mq (C:Addr) (t:TA) (E:XK):TS:=λ_ σ H=>t σ H λvs H1=>match vs with
 | [_]=>E (.ref C) none H1
 | _=>False
section
theorem GH (c:pI X.K X.mg x C) (pm:PM X E) (ha:PA X (e::es) t) (hc:X.calm = true:=by rfl) (hg:Gl X x:=by rfl) (hdb:(x == ("__debug__":Str)) = false:=by decide)
  (he:starEach (e::es) X.env = (false,eval e X.env)::starEach es X.env:=by rfl) (hpl:(backTo cpos (starEach es X.env)).any (·.1) = false:=by rfl):
  PS X (.Raise (some (.Call (.Name x np) (e::es) [] cpos)) none pos) (Mq C t E):=by
 intro pins s σ H D I h
 obtain ⟨mro,N,nm,q,bs,hdct,sn,sub,ab,col,dd,k0,k1,k2,k3,k5,mN,c1,c2,c3,c4⟩:=rX I.mod.vp c.cls
 refine wpAny_Raise_call_subU (nm:=nm) (q:=q) (C:=C) (N:=N) (bs:=bs) (bm:=mro) (hdct:=hdct) (sn:=sn) (sub:=sub) (ab:=ab) (col:=col) (dd:=dd) (k0:=k0) (k1:=k1) (k2:=k2) (k3:=k3) (k5:=k5) (mN:=mN) PySem.F.excBase_ValueError (by decide) PySem.F.excBase_ValueError (c4.hasType (by decide)) (I.ok.hd hc) (by rw [he]; exact hpl) c3 ?_
 refine iD I hg c.bound ⟨rfl,?_⟩ hdb
 have h2:=ha cpos pins s σ H _ I h
 rw [he] at h2 ⊢
 refine Calls.evalArgs_plain (aW h2 λus s2 ⟨vs,H1,I1,r,q1⟩=>⟨rfl,?_,I1.bk _ _ c1,c2.keeps I1.bk,c4.keeps I1.bk,λh' ea mk=>?_⟩)
 ·show us.length<=sizeLine
  have hl:=r.length
  dsimp only at q1
  split at q1
  ·rw [←hl]; show 1<=sizeLine; decide
  ·exact q1.elim
 ·dsimp only at q1
  split at q1
  ·exact pm.made pins σ H1 s2 h' ea C us I1 mk q1
  ·exact q1.elim
end
structure yO (X Y:Cx):Prop where
 prog:Y.prog = X.prog
 w:Y.w = X.w
 K:Y.K = X.K
 mg:Y.mg = X.mg
 base:Y.base = X.base
 N:Y.N = X.N
 s₀:Y.s₀ = X.s₀
 H₀:Y.H₀ = X.H₀
 env:Y.env = X.env
 outer:Y.outer = X.outer
 stack:Y.stack = X.stack
 ex:Y.ex = X.ex
 fn:Y.fn = X.fn
 fr:Y.A.frames = X.A.frames
theorem Inv.xg (I:Inv X pins σ H s) (L:yO X Y) (hd:Y.calm = true->Y.A.handled = none) (hp:∀ p∈Y.pn++pins',p∈X.pn++pins)
  (ha:∀ σ₀,Y.dZ = some σ₀->∀ j:Nat,j∉Y.iW->σ[j]? = σ₀[j]?):Inv Y pins' σ H s:=by
 obtain ⟨prog,w,K,mg,base,A,N,s₀,H₀,env,outer,stack,ex,fn,calm,pn,xe,dZ,iW⟩:=Y
 obtain ⟨e1,e2,e3,e4,e5,e6,e7,e8,e9,e10,e11,e12,e13,e14⟩:=L
 dsimp only at e1 e2 e3 e4 e5 e6 e7 e8 e9 e10 e11 e12 e13 e14
 subst e1 e2 e3 e4 e5 e6 e7 e8 e9 e10 e11 e12 e13
 obtain ⟨⟨o1,o2,o3,o4,o5,o6,o7,o8,o9,o10,o11,o12,o13,o14,o15,o16,o17,o18⟩,i1,i2,i3,i4,i5,i6,i7,i8,i9,i10,_⟩:=I
 exact ⟨⟨o1,o2,o3,o4,o5,o6,o7,o8,hd,e14.trans o10,o11,o12,o13,o14,o15,o16,o17,o18⟩,i1,i2,i3,i4,i5,i6,i7,λp z=>i8 p (hp p z),i9,i10,ha⟩
def forget (F:List Nat) (σ:St):St:=F.foldl (λs i=>s.set i none) σ
theorem Bo (F:List Nat) (σ:St):(forget F σ).length = σ.length:=by
 unfold forget
 induction F generalizing σ with
 | nil=>rfl
 | cons i r ih=>rw [List.foldl_cons,ih,List.length_set]
theorem BV (F:List Nat) (σ:St) (i:Nat) (v:V) (h:(forget F σ)[i]? = some (some v)):i∉F/\σ[i]? = some (some v):=by
 unfold forget at h
 induction F generalizing σ with
 | nil=>exact ⟨by simp,h⟩
 | cons j r ih=>
   rw [List.foldl_cons] at h
   obtain ⟨h1,h2⟩:=ih (σ.set j none) h
   by_cases e:j = i
   ·subst e
    rw [List.getElem?_set] at h2
    split at h2
    ·split at h2 <;> cases h2
    ·rename_i z; exact absurd rfl z
   ·rw [List.getElem?_set_ne e] at h2
    exact ⟨λz=>(List.mem_cons.mp z).elim (λz=>e z.symm) h1,h2⟩
def Mt (K:W.Frag) (cls:Value) (C:Addr) (b:Bool):Prop:=∀ (M:Model) (A:Around) (E:Value->Shared->Prop) (Q:Bool->Shared->Prop) (s:Shared) (ea:Addr) (oe:Obj),K.In s.heap->s.heap.get? ea = some oe->oe.cls = cls->Q b s->wpAny M A (excMatches (.ref ea) (.ref C)) Q E s
abbrev Cx.within (X:Cx) (ea:Addr):Cx:={ X with A:=X.A.mark (some (.ref ea)),calm:=false,xe:=λ_ _=>False }
abbrev Cx.body (X:Cx) (xe:Value->Shared->Prop) (pn:List (Addr×Obj)) (σ₀:St) (F:List Nat):Cx:={ X with xe:=xe,pn:=pn,dZ:=some σ₀,iW:=F }
theorem zM:yO X (X.within ea):=⟨rfl,rfl,rfl,rfl,rfl,rfl,rfl,rfl,rfl,rfl,rfl,rfl,rfl,rfl⟩
theorem yG:yO (X.within ea) X:=⟨rfl,rfl,rfl,rfl,rfl,rfl,rfl,rfl,rfl,rfl,rfl,rfl,rfl,rfl⟩
theorem C9:yO X (X.body xe pn σ₀ F):=⟨rfl,rfl,rfl,rfl,rfl,rfl,rfl,rfl,rfl,rfl,rfl,rfl,rfl,rfl⟩
theorem r9:yO (X.body xe pn σ₀ F) X:=⟨rfl,rfl,rfl,rfl,rfl,rfl,rfl,rfl,rfl,rfl,rfl,rfl,rfl,rfl⟩
def yB (X:Cx) (pins:List (Addr×Obj)) (σ:St) (H':Hp) (ea:Addr) (cls:Value) (s:Shared):Prop:=∃ H1 s1 B a0,Inv X pins σ H1 s1/\ij X.prog X.w X.stack H1 s1 ea cls H' B a0 s
theorem yB.inv:yB X pins σ H' ea cls s->Inv X pins σ H' s:=λ⟨_,_,_,_,I,x⟩=>x.inv I
def v5 (X:Cx) (hs:List ExceptHandler) (t:Value->TS):Prop:=
 ∀ (ea:Addr) (cls:Value) (pins:List (Addr×Obj)) (s:Shared) (σ:St) (H:Hp) (D:Ends),yB X pins σ H ea cls s->t cls D σ H->wpAny (model X.prog X.w) X.A (handleBy (.ref ea) X.env hs) (SP X pins D) X.xe s
section
variable {X:Cx} {x:Str} {C:Addr} {np pos:Pos} {b₀:Stmt} {suite:List Stmt} {rest:List ExceptHandler} {th:TS} {tr:Value->TS}
theorem JO:v5 X [] λ_ _ _ _=>False:=λ_ _ _ _ _ _ _ _ h=>h.elim
theorem SP.Dd (k:∀ σ H,Inv Y pins σ H s->Inv X pins σ H s) (h:SP Y pins D f s):SP X pins D f s:=by
 cases f with
 | next=>obtain ⟨σ,H,I,q⟩:=h; exact ⟨σ,H,k _ _ I,q⟩
 | brk=>obtain ⟨σ,H,I,q⟩:=h; exact ⟨σ,H,k _ _ I,q⟩
 | cont=>obtain ⟨σ,H,I,q⟩:=h; exact ⟨σ,H,k _ _ I,q⟩
 | ret u=>obtain ⟨v,σ,H,I,r,q⟩:=h; exact ⟨v,σ,H,k _ _ I,r,q⟩
def N2 (K:W.Frag) (C:Addr) (th:TS) (tr:Value->TS):Value->TS:=λcls D σ H=>∃ b,Mt K cls C b/\if b = true then th D σ H else tr cls D σ H
theorem FW (hm:X.mg x = some (.ref C)) (hs:∀ ea,ia (X.within ea) (b₀::suite) th) (hr:v5 X rest tr) (hna:X.dZ = none:=by rfl) (hhd:X.calm = true:=by rfl) (hg:Gl X x:=by rfl) (hdb:(x == ("__debug__":Str)) = false:=by decide):
  v5 X (.ExceptHandler (some (.Name x np)) none (b₀::suite) pos::rest) (N2 X.K C th tr):=by
 intro ea cls pins s σ H D c ⟨b,hb,q⟩
 have toW:∀ {σ:St} {H:Hp} {s:Shared},Inv X pins σ H s->Inv (X.within ea) pins σ H s:=λI=>I.xg zM nofun (λp z=>z) (λσ₀ e=>by rw [show (X.within ea).dZ = X.dZ from rfl,hna] at e; cases e)
 have I:=c.inv
 obtain ⟨H1,s1,B,a0,I1,fl⟩:=c
 obtain ⟨oe,ho,hc⟩:=fl.qz.there
 refine wpAny_handleBy_cons (codeAny_handlers_test (iD (X:=X.within ea) (toW I) hg hm ?_ hdb)) (by intro q; cases q)
 refine hb _ _ _ _ s ea oe I.gZ ho hc ?_
 cases b with
 | false=>exact hr ea cls pins s σ H D ⟨H1,s1,B,a0,I1,fl⟩ q
 | true=>
   refine codeAny_handlers_suite ?_
   refine lands_againW fl.qz λh' f' u=>?_
   have I2:Inv X pins σ H { s with heap:=h' }:=(fl.on f' u).inv I1
   refine wpAny_mono (hs ea pins _ σ H D (toW I2) q) (λf s2 hq=>?_) λ_ _ z=>z.elim
   exact SP.Dd (λσ' H' J=>J.xg yG (λ_=>I.ok.hd hhd) (λp z=>z) λσ₀ e=>by rw [hna] at e; cases e) hq
def Mi (F:List Nat) (tb:XK->TS) (th:Value->TS):TS:=λD σ H=>∃ E:XK,tb E D σ H/\∀ cls dx H',E cls dx H'->th cls D (forget F σ) H'
theorem Mb {body:List Stmt} {h₀:ExceptHandler} {hs:List ExceptHandler} {F:List Nat} {tb:XK->TS} {th:Value->TS} (hb:∀ (xe:Value->Shared->Prop) (pn:List (Addr×Obj)) (σ₀:St) (E:XK),PX (X.body xe pn σ₀ F) E->ia (X.body xe pn σ₀ F) body (tb E)) (hh:v5 X (h₀::hs) th)
  (hst:X.stack = X.env::X.outer:=by rfl) (hfr:X.env.frame = some X.env.locals:=by rfl) (hna:X.dZ = none:=by rfl):PS X (.Try body (h₀::hs) [] [] pos) (Mi F tb th):=by
 intro pins s σ H D I ⟨E,q,qh⟩
 refine wpAny_Try_except ?_
 let Y:=X.body (λe s₁=>wpAny (model X.prog X.w) X.A (noteFrame e X.env) (λ_ s₂=>wpAny (model X.prog X.w) X.A (setFlight e none) (λ_ s₃=>wpAny (model X.prog X.w) X.A (handleBy e X.env (h₀::hs)) (SP X pins D) X.xe s₃) X.xe s₂) X.xe s₁) (X.pn++pins) σ F
 have px:PX Y E:=by
  refine ⟨λpins' σ1 H1 s1 e s' I1 ⟨ea,cls,H',B,a0,he,fl,hE⟩=>?_,PassesOwn.looking⟩
  subst he
  show wpAny _ _ (noteFrame _ _) _ _ _
  refine wpAny_looks_onW (base:=B) (outer:=X.outer) (by rw [←hst]; exact I.ok.frames) hfr (by rw [←hst]; exact fl.qz) λh4 hd4 u4=>?_
  refine wpAny_landsW hd4 λh5 fl5 u5=>?_
  have I2:Inv X pins (forget F σ) H1 s1:=by
   have J:Inv X pins σ1 H1 s1:=I1.xg r9 (λz=>I.ok.hd z) (λp z=>List.mem_append_left _ z) (λσ₀ e=>by rw [hna] at e; cases e)
   refine J.weak hna ((Bo F σ).trans (I.len.trans J.len.symm)) λi v e=>?_
   obtain ⟨n,e'⟩:=BV F σ i v e
   rw [I1.Hl σ rfl i n]; exact e'
  exact hh ea cls pins _ (forget F σ) H' D ⟨H1,s1,B,a0,I2,fl.on (by rw [show Y.stack = X.env::X.outer from hst]; exact fl5) (u4.trans u5)⟩ (qh cls none H' hE)
 have IY:Inv Y pins σ H s:=I.xg C9 (λz=>I.ok.hd z) (λp z=>(List.mem_append.mp z).elim (λy=>y) λy=>List.mem_append_right _ y) (λσ₀ e j _=>by cases e; rfl)
 refine wpAny_mono (hb _ _ _ E px pins s σ H D IY q) (λf s1 h1=>?_) λe s1 h1=>h1
 have h2:SP X pins D f s1:=SP.Dd (λσ' H' J=>J.xg r9 (λz=>I.ok.hd z) (λp z=>List.mem_append_left _ z) λσ₀ e=>by rw [hna] at e; cases e) h1
 cases f with
 | next=>exact wpAny_execs_nil h2
 | brk=>exact h2
 | cont=>exact h2
 | ret u=>exact h2
end
section
variable {K:W.Frag} {A C:Addr}
theorem Jy (c:PySem.W.excIn K C lO "ValueError.__new__" = true):Mt K (.ref C) C true:=λM A E Q s ea oe X ho hc q=>by
 obtain ⟨mro,N,nm,qn,bs,hdct,sn,sub,ab,col,dd,k0,k1,k2,k3,k5,mN,c1,c2,c3,c4⟩:=rX X c
 obtain ⟨h,g,d,t,os⟩:=s
 exact wpAny_excMatches_sub_self c1 ho hc (c4.hasType (by decide)) q
end
end L2
end
section
namespace L2
open PySem PySem.Spec PyProof.Rows
def isStar:Expr->Bool
 | .Starred _ _=>true
 | _=>false
theorem b5 (h:isStar e = false):starEach (e::es) env = (false,eval e env)::starEach es env:=by
 cases e <;> first | rfl | (cases h)
theorem cu:∀ {es:List Expr},es.all (λe=>!isStar e) = true->(backTo pos (starEach es env)).any (·.1) = false
 | [],_=>rfl
 | e::es,h=>by
   rw [List.all_cons,Bool.and_eq_true,Bool.not_eq_true'] at h
   rw [b5 h.1]
   exact cu h.2
theorem d6 (ha:PE X e te) (hr:PA X es t) (hs:isStar e = false:=by rfl):PA X (e::es) (sx te t):=Kg ha hr (b5 hs)
section
variable {P:Program} {w:World} {K:W.Frag} {mg:Str->Option Value} {base:Heap} {x:Str} {st:Stmt} {N ps:List Str} {k:Nat} {sp:Sp}
theorem qI.Lz (F:qI K x qual st f fd) (S:aD N ps (ah st)) (len:∀ vs H Q E,sp vs H Q E->vs.length = ps.length)
  (hbody:∀ (cdv:Value) (A:Around) (outer:List Env) (s:Shared) (H:Hp) (vs:List V) (Q:VK) (E:XK),bI k (A.deeper (envOfC qual (ah st) s.heap.objs.size f cdv))->sp vs H Q E->
   ∃ t,ia (fT CX P w K mg base N qual (ah st) f cdv A outer s H E) (c9 st) t/\t { nx:=λ_ H'=>Q .non H',rt:=Q } (start N vs) H):dG P w K mg base CX (k+1) f fd ps sp:=by
 obtain ⟨oc,od,kV,doc,pm,an,cdv,ct,osl,e,l,c⟩:=F.ex
 subst e
 exact NJ l c S len λA outer s H vs Q E hr h=>hbody cdv A outer s H vs Q E hr h
theorem HasDef.Ee (F:HasDef K mg x st ps) (S:aD N ps (ah st)) (len:∀ vs H Q E,sp vs H Q E->vs.length = ps.length)
  (hbody:∀ (f:Addr) (cdv:Value) (A:Around) (outer:List Env) (s:Shared) (H:Hp) (vs:List V) (Q:VK) (E:XK),bI k (A.deeper (envOfC x (ah st) s.heap.objs.size f cdv))->sp vs H Q E->
   ∃ t,ia (fT (dF P w) P w K mg base N x (ah st) f cdv A outer s H E) (c9 st) t/\t { nx:=λ_ H'=>Q .non H',rt:=Q } (start N vs) H):Callee P w K mg base (dF P w) x (k+1) ps sp:=by
 obtain ⟨f,fd,h1,h2,h3⟩:=F
 exact ⟨f,fd,h1,h2.kp,.all h3,h2.Lz S len λcdv A outer s H vs Q E hr h=>hbody f cdv A outer s H vs Q E hr h⟩
theorem Callee.calm (C:Callee P w K mg base (dF P w) x k ps sp) (h:∀ vs H Q E,sp vs H Q E->sp vs H Q E0):Callee P w K mg base tO x k ps sp:=by
 obtain ⟨f,fd,h1,h2,h3,h4⟩:=C
 refine ⟨f,fd,h1,h2,h3,h4.len,λA outer s H args us vs Q E hr e0 hb r hs=>?_⟩
 refine codeAny_mono (h4.run A outer s H args us vs Q E0 hr e0 hb r (h vs H Q E hs)) λr s' hq=>?_
 cases r with
 | error e=>obtain ⟨_,_,_,_,_,_,_,z⟩:=hq; exact z.elim
 | ok fl=>cases fl <;> exact hq
theorem dG.calm (h4:dG P w K mg base (dF P w) k f fd ps sp) (h:∀ vs H Q E,sp vs H Q E->sp vs H Q E0):dG P w K mg base tO k f fd ps sp:=by
 refine ⟨h4.len,λA outer s H args us vs Q E hr e0 hb r hs=>?_⟩
 refine codeAny_mono (h4.run A outer s H args us vs Q E0 hr e0 hb r (h vs H Q E hs)) λr s' hq=>?_
 cases r with
 | error e=>obtain ⟨_,_,_,_,_,_,_,z⟩:=hq; exact z.elim
 | ok fl=>cases fl <;> exact hq
end
section
theorem p4 (px:PX X E) (C:Callee X.prog X.w X.K X.mg X.base (dF X.prog X.w) x j ps sp) (hr:bI k X.A) (ha:PA X (e::es) t) (hj:j<=k:=by first | decide | omega) (hg:Gl X x:=by rfl) (hdb:(x == ("__debug__":Str)) = false:=by decide)
  (he:starEach (e::es) X.env = (false,eval e X.env)::starEach es X.env:=by rfl) (hpl:(backTo pos (starEach es X.env)).any (·.1) = false:=by rfl):
  PE X (.Call (.Name x p) (e::es) [] pos) (wF sp [] E t):=by
 obtain ⟨f,fd,h1,h2,h3,h4⟩:=C
 exact Aw h4 (hr.mono hj) hg h1 h2 h3 .nil px.pass ha hdb he hpl
def NY (z:Str):Prop:=z.length<=100000/\∀ c∈Cd z,c < 4294967296
def PV (te:TE):TE:=λσ H Q=>te σ H λx H1=>match x with
 | .str z=>NY z/\∀ y:Str,y.length<=2000000->Q (.str y) H1
 | .int i=>i.natAbs.log2 < 1920/\∀ y:Str,y.length<=2000000->Q (.str y) H1
 | _=>False
def O0 (te:TE):TE:=λσ H Q=>te σ H λx H1=>match x with
 | .str z=>z.length<=sizeLine/\Q (.str z) H1
 | .int i=>i.natAbs.log2 < 1920/\Q (.str (Str.ofString (toString i))) H1
 | _=>False
theorem CU (he:PE X e te):PE X (.FormattedValue e (-1) none pos) (O0 te):=by
 intro pins s σ H Q I h
 refine wpAny_FormattedValue_plain (aW (he pins s σ H _ I h) λv s1 ⟨x,H1,I1,r,q⟩=>?_)
 dsimp only at q
 split at q
 ·rename_i z
  obtain ⟨t,rfl⟩:=r
  exact wpAny_formatField_str (hx:=q.1) ⟨.str z,H1,I1,⟨_,rfl⟩,q.2⟩ ⟨.str z,H1,I1.tok _,⟨_,rfl⟩,q.2⟩
 ·rename_i i
  obtain ⟨t,rfl⟩:=r
  exact wpAny_formatField_int q.1 ⟨.str (Str.ofString (toString i)),H1,(I1.tok _).tok _,⟨_,rfl⟩,q.2⟩
 ·exact q.elim
def tQ:List TE->Str->St->Hp->VK->Prop
 | [],acc,_,H,Q=>Q (.str acc) H
 | t::r,acc,σ,H,Q=>t σ H λx H1=>match x with
   | .str y=>acc.length+y.length<=sizeLine/\tQ r (acc++y) σ H1 Q
   | _=>False
def L6 (ts:List TE):TE:=λσ H Q=>tQ ts Str.empty σ H Q
def PJ (X:Cx):List Expr->List TE->Prop
 | [],[]=>True
 | e::r,t::ts=>PE X e t/\PJ X r ts
 | _,_=>False
theorem A5:∀ {es:List Expr} {ts:List TE} {acc:Str} {H:Hp} {s:Shared},acc.length<=sizeLine->PJ X es ts->Inv X pins σ H s->tQ ts acc σ H Q->
  Joins (model X.prog X.w) X.A X.xe (evalEach es X.env) acc (λout s₁=>out.length<=sizeLine/\EP X pins σ Q (.str out s₁.toks) { s₁ with toks:=s₁.toks+1 }) s
 | [],[],acc,H,s,ha,_,I,q=>⟨ha,.str acc,H,I.tok _,⟨_,rfl⟩,q⟩
 | [],_::_,_,_,_,_,p,_,_=>p.elim
 | _::_,[],_,_,_,_,p,_,_=>p.elim
 | e::es,t::ts,acc,H,s,ha,p,I,q=>by
   show wpAny _ _ (eval e X.env) _ _ _
   refine aW (p.1 pins s σ H _ I q) λv s1 ⟨x,H1,I1,r,q1⟩=>?_
   dsimp only at q1
   split at q1
   ·rename_i y
    obtain ⟨tk,rfl⟩:=r
    have hl:(acc++y).length<=sizeLine:=by rw [strLen_append]; exact q1.1
    exact ⟨y,tk,rfl,hl,A5 hl p.2 I1 q1.2⟩
   ·exact q1.elim
theorem AO (p:PJ X (e::e2::es) ts):PE X (.JoinedStr (e::e2::es) pos) (L6 ts):=λpins s σ H Q I h=>wpAny_JoinedStr (A5 (by decide) p I h)
def rN:List DictEntry->List (Str×V)->Prop
 | [],[]=>True
 | d::r,kv::rs=>(∃ t,d.key = .str kv.1 t)/\RelV kv.2 d.val/\rN r rs
 | _,_=>False
def gn (K:W.Frag) (w:World) (mg:Str->Option Value) (x:Str) (kvs:List (Str×V)):Prop:=
 ∃ (d:Addr) (es:Array DictEntry) (n:Nat),mg x = some (.ref d)/\(d == sysModules) = false/\K.lookup d = some ⟨.type "dict",none,.dict es n,#[]⟩/\PySem.W.KeysLit w.params es.toList/\rN es.toList kvs
theorem rN.find:∀ {l:List DictEntry} {kvs:List (Str×V)} (k:Str),rN l kvs->match kvs.lookup k,(l.find? λd=>Value.isStrOf k d.key).map (·.val) with
  | none,none=>True
  | some v,some u=>RelV v u
  | _,_=>False
 | [],[],k,_=>trivial
 | [],_::_,_,h=>h.elim
 | _::_,[],_,h=>h.elim
 | d::r,kv::rs,k,⟨⟨t,e⟩,hv,hr⟩=>by
   have ih:=rN.find k hr
   obtain ⟨x,v⟩:=kv
   have e:d.key = .str x t:=e
   by_cases hk:k = x
   ·subst hk
    have h1:Value.isStrOf k d.key = true:=by rw [e]; simp [Value.isStrOf]
    rw [List.find?_cons_of_pos (p:=λd:DictEntry=>Value.isStrOf k d.key) h1,List.lookup_cons_self]
    exact hv
   ·have h1:¬Value.isStrOf k d.key = true:=by rw [e]; simp [Value.isStrOf]; exact λz=>hk z.symm
    have h2:(k == x) = false:=by simpa using hk
    rw [List.find?_cons_of_neg (p:=λd:DictEntry=>Value.isStrOf k d.key) h1,List.lookup_cons,h2]
    exact ih
theorem gn.glob {K:W.Frag} {w:World} {mg:Str->Option Value} {x:Str} {kvs:List (Str×V)} (D:gn K w mg x kvs):∃ d,mg x = some (.ref d):=by obtain ⟨d,_,_,h,_⟩:=D; exact ⟨d,h⟩
def MK (neg:Bool) (kvs:List (Str×V)) (t:TE):TE:=λσ H Q=>t σ H λy H1=>match y with
 | .str k=>Q (.bl (xor neg (kvs.lookup k).isSome)) H1
 | _=>False
def OX (kvs:List (Str×V)) (t:TE):TE:=λσ H Q=>t σ H λy H1=>match y with
 | .str k=>(match kvs.lookup k with
   | some v=>Q v H1
   | none=>False)
 | _=>False
theorem gn.op {kvs:List (Str×V)} {neg:Bool} {pins:List (Addr×Obj)} {s:Shared} {σ:St} {H:Hp} {k:Str} {t:Tok} {d:Addr} {Q:VK} (D:gn X.K X.w X.mg x kvs) (hd:X.mg x = some (.ref d)) (I:Inv X pins σ H s) (q:Q (.bl (xor neg (kvs.lookup k).isSome)) H):
  wpAny (model X.prog X.w) X.A (compareOp (if neg then .NotIn else .In) (.str k t) (.ref d)) (EP X pins σ Q) X.xe s:=by
 obtain ⟨d',es,n,h1,h2,h3,h4,h5⟩:=D
 rw [hd] at h1
 cases h1
 have hm:=PySem.W.mapOf_K (prog:=X.prog) I.gZ h3 h4
 have hf:=h5.find k
 have e:findBy Value.isStrOf es k = (es.toList.find? λd=>Value.isStrOf k d.key).map (·.val):=by
  unfold findBy
  rw [←Array.find?_toList]
 have e2:(findBy Value.isStrOf es k).isSome = (kvs.lookup k).isSome:=by
  rw [e]
  split at hf
  ·rename_i a b; rw [a,b]; rfl
  ·rename_i a b; rw [a,b]; rfl
  ·exact hf.elim
 cases neg with
 | false=>
   refine wpAny_in_of (strKind_is X.prog X.w k t) h2 hm ?_
   rw [e2]
   exact ⟨.bl (kvs.lookup k).isSome,H,I.tok _,rfl,by simpa using q⟩
 | true=>
   refine wpAny_notIn_of (strKind_is X.prog X.w k t) h2 hm ?_
   rw [e2]
   exact ⟨.bl (!(kvs.lookup k).isSome),H,I.tok _,rfl,by simpa using q⟩
theorem Nb {neg:Bool} {y:Expr} {ty:TE} {kvs:List (Str×V)} (D:gn X.K X.w X.mg x kvs) (hy:PE X y ty) (hg:Gl X x:=by rfl) (hdb:(x == ("__debug__":Str)) = false:=by decide):PT X (.Compare y [if neg then .NotIn else .In] [.Name x p] pos) (cT (MK neg kvs ty)):=by
 intro pins s σ H Q I h
 obtain ⟨d,hd⟩:=D.glob
 refine wpAny_isTrue_Compare1 (aW (hy pins s σ H _ I h) λv s1 ⟨u,H1,I1,r1,q1⟩=>iD I1 hg hd ?_ hdb) rfl
 dsimp only at q1
 split at q1
 ·obtain ⟨t,rfl⟩:=r1
  refine aW (D.op (neg:=neg) (Q:=λz H3=>z = .bl (xor neg (kvs.lookup _).isSome)/\H3 = H1) hd I1 ⟨rfl,rfl⟩) λc s3 ⟨z,H3,I3,r3,q3,e3⟩=>?_
  subst q3 e3
  cases r3
  exact wpAny_truthy_bool ⟨_,I3,q1⟩
 ·exact q1.elim
theorem Cj (D:gn X.K X.w X.mg x kvs) (hy:PE X y ty) (hs:jj y:=by intro _ _; rfl) (hg:Gl X x:=by rfl) (hdb:(x == ("__debug__":Str)) = false:=by decide):PE X (.Subscript (.Name x p) y pos) (OX kvs ty):=by
 intro pins s σ H Q I h
 obtain ⟨d',es,n,h1,h2,h3,h4,h5⟩:=D
 refine Ah (T:="dict") slot_dict_getitem.lookup hs (iD I hg h1 (aW (hy pins s σ H _ I h) λv s1 ⟨u,H1,I1,r1,q1⟩=>?_) hdb)
 dsimp only at q1
 split at q1
 ·rename_i k
  obtain ⟨t,rfl⟩:=r1
  have hm:=PySem.W.mapOf_K (prog:=X.prog) I1.gZ h3 h4
  have hf:=h5.find k
  have e:findBy Value.isStrOf es k = (es.toList.find? λd=>Value.isStrOf k d.key).map (·.val):=by
   unfold findBy
   rw [←Array.find?_toList]
  split at q1
  ·rename_i v hv
   rw [hv] at hf
   split at hf
   ·rename_i z _; cases z
   ·rename_i v' u' z1 z2
    cases z1
    rw [z2] at e
    exact ⟨hm.typeIs,wpAny_getItem_of (strKind_is X.prog X.w k t) hm e ⟨_,H1,I1.tok _,hf,q1⟩⟩
   ·exact hf.elim
  ·exact q1.elim
 ·exact q1.elim
theorem w6 {K:W.Frag} {w:World} {mg:Str->Option Value} {h:Heap} {x:Str} {kvs:List (Str×V)} {d:Addr} {es:Array DictEntry} {n:Nat} (X:K.In h) (G:h.Ns mainGlobals mg) (a:PySem.W.nsIn K mainGlobals x = some (some (.ref d)))
  (l:K.lookup d = some ⟨.type "dict",none,.dict es n,#[]⟩) (hs:(d == sysModules) = false) (hk:PySem.W.KeysLit w.params es.toList) (he:rN es.toList kvs):gn K w mg x kvs:=⟨d,es,n,PySem.W.mg_of X G a,hs,l,hk,he⟩
def aR (mg:Str->Option Value) (x:Str):Addr:=match mg x with
 | some (.ref C)=>C
 | _=>0
theorem Mf {K:W.Frag} {mg:Str->Option Value} {h:Heap} {x:Str} {C:Addr} (X:K.In h) (G:h.Ns mainGlobals mg) (a:PySem.W.nsIn K mainGlobals x = some (some (.ref C))) (c:PySem.W.excIn K C lO "ValueError.__new__" = true):pI K mg x (aR mg x):=by
 have h:=PySem.W.mg_of X G a
 have e:aR mg x = C:=by unfold aR; rw [h]
 rw [e]
 exact ⟨h,c⟩
end
end L2
end
section
namespace L2
open PySem PySem.Spec PyProof.Rows
def tw (K:W.Frag) (A:Addr):List Value:=match K.lookup A with
 | some ⟨_,_,.cls cd,_⟩=>cd.mro
 | _=>[]
theorem CY {K:W.Frag} {h:Heap} {A:Addr} (X:K.In h) (q:PySem.W.excIn K A lO "ValueError.__new__" = true):∃ mro,ClsAt h A mro/\tw K A = .ref A::mro:=by
 obtain ⟨mro,c⟩:=rX X q
 refine ⟨mro,c,?_⟩
 obtain ⟨N,nm,qn,bs,hdct,sn,sub,ab,col,dd,k0,k1,k2,k3,k5,mN,c1,_⟩:=c
 unfold tw
 cases lk:K.lookup A with
 | none=>
   unfold PySem.W.excIn at q
   rw [lk] at q
   cases q
 | some o=>
   have e:=X _ _ lk
   rw [c1] at e
   cases e
   rfl
theorem LB {K:W.Frag} {A C:Addr} {b:Bool} (a:PySem.W.excIn K A lO "ValueError.__new__" = true) (c:PySem.W.excIn K C lO "ValueError.__new__" = true) (hb:(tw K A).contains (.ref C) = b):Mt K (.ref A) C b:=λM A' E Q s ea oe X ho hc q=>by
 obtain ⟨mro,⟨N,nm,qn,bs,hdct,sn,sub,ab,col,dd,k0,k1,k2,k3,k5,mN,a1,a2,a3,a4⟩,ha⟩:=CY X a
 obtain ⟨mro',N',nm',qn',bs',hdct',sn',sub',ab',col',dd',k0',k1',k2',k3',k5',mN',c1,c2,c3,c4⟩:=rX X c
 obtain ⟨h,g,d,t,os⟩:=s
 have f:=tc_notTuple
 have hB:(Value.ref C::mro').contains (.type "BaseException") = true:=by rw [List.contains_cons,c4.hasType (b:=true) (by decide),Bool.or_true]
 have hA:(Value.ref A::mro).contains (.ref C) = b:=by rw [←ha]; exact hb
 unfold excMatches
 repeat (first | (with_reducible refine wpAny_loadPart_at ho ?_; rw [hc]) | with_reducible refine wpAny_loadPart_at c1 ?_ | (with_reducible refine wpAny_isSubtype_exc c1 ?_; rw [hB]) | (with_reducible refine wpAny_isSubtype_exc a1 ?_; rw [hA]) | wp_step)
 cases b <;> first | exact q | (wp_walk; exact q)
end L2
end
section
namespace L2
open PySem PySem.Spec PyProof.Rows
inductive Rs (α:Type) where
 | ok (a:α) | ex (c:Str) | bad
def Rs.bind {α β:Type}:Rs α->(α->Rs β)->Rs β
 | .ok a,f=>f a
 | .ex c,_=>.ex c
 | .bad,_=>.bad
theorem Rs.aq {α β:Type} (a:α) (f:α->Rs β):(Rs.ok a).bind f = f a:=rfl
inductive Dv where
 | non | bl (b:Bool) | int (i:Int) | str (x:Str) | tup (l:List Dv) | lst (l:List Dv) | seq (l:List Dv) | ob (a:Addr) | exc (c:Str)
def Dv.kind:Dv->String
 | .non=>"NoneType" | .bl _=>"bool" | .int _=>"int" | .str _=>"str" | .tup _=>"tuple" | .lst _=>"list" | .seq _=>"list" | .ob _=>"object" | .exc _=>"object"
def vY (K:W.Frag) (Z:Addr->Prop) (H:Hp) (a:Addr) (xs:List V):Prop:=
 (H a = some (.lst xs)/\¬Z a)\/∃ o,H a = some (.dt o (.lst xs))
theorem vY.rd {K:W.Frag} {Z:Addr->Prop} {H:Hp} {a:Addr} {xs:List V} (h:vY K Z H a xs):Rd H a (.lst xs):=by
 rcases h with h | h
 ·exact .inl h.1
 ·exact .inr h
theorem Rd.sq {K:W.Frag} {H:Hp} {a:Addr} {xs:List V} (h:Rd H a (.lst xs)):cR K H a xs:=.inl h
theorem aK.rd (s:aK H H') (h:Rd H a u):Rd H' a u:=by
 rcases h with h | ⟨o,h⟩
 ·exact .inl (s _ _ h)
 ·exact .inr ⟨o,s _ _ h⟩
def dE (K:W.Frag) (c:Str):Addr:=match PySem.W.nsIn K mainGlobals c with
 | some (some (.ref C))=>C
 | _=>0
def Px (ea:Addr) (oe:Obj):HO:=.ext λh=>h.get? ea = some oe
mutual
def Rp (K:W.Frag) (Z:Addr->Prop) (H:Hp):Dv->V->Prop
 | .non,v=>v = .non
 | .bl b,v=>v = .bl b
 | .int i,v=>v = .int i
 | .str x,v=>v = .str x/\x.length<=sizeLine
 | .tup l,v=>∃ a xs,v = .ref a/\dz K H a xs/\l.length<=sizeLine/\a7 K Z H l xs
 | .lst l,v=>∃ a xs,v = .ref a/\vY K Z H a xs/\l.length<=sizeLine/\a7 K Z H l xs
 | .seq l,v=>∃ a xs,v = .ref a/\cR K H a xs/\(∀ H',(∀ a o u,H a = some (.dt o u)->H' a = some (.dt o u))->cR K H' a xs)/\l.length<=sizeLine/\a7 K Z H l xs
 | .ob a,v=>v = .ref a
 | .exc c,v=>∃ ea oe,v = .ref ea/\H ea = some (Px ea oe)/\oe.cls = .ref (dE K c)/\¬Z ea
def a7 (K:W.Frag) (Z:Addr->Prop) (H:Hp):List Dv->List V->Prop
 | [],xs=>xs = []
 | d::l,xs=>∃ x r,xs = x::r/\Rp K Z H d x/\a7 K Z H l r
end
structure Ext (Z:Addr->Prop) (H H':Hp):Prop where
 keep:∀ a o,H a = some o->¬Z a->H' a = some o
 tup:∀ a xs,H a = some (.tup xs)->H' a = some (.tup xs)
 dt:∀ a o u,H a = some (.dt o u)->H' a = some (.dt o u)
 there:∀ a,H a≠none->H' a≠none
theorem aK.ext (s:aK H H') (Z:Addr->Prop):Ext Z H H':=⟨λa o e _=>s a o e,λa _ e=>s a _ e,λa _ _ e=>s a _ e,λa e=>by
 cases q:H a with
 | none=>exact absurd q e
 | some o=>rw [s a o q]; exact λz=>nomatch z⟩
theorem Ext.same (e:Ext Z H H') (hz:∀ a,¬Z a):aK H H':=λa o q=>e.keep a o q (hz a)
theorem Ext.refl:Ext Z H H:=(aK.refl H).ext Z
theorem Ext.weak (e:Ext Z H H') (h:∀ a,Z a->Z' a):Ext Z' H H':=⟨λa o q n=>e.keep a o q λz=>n (h a z),e.tup,e.dt,e.there⟩
theorem Ext.trans (e:Ext Z H H1) (e':Ext Z' H1 H2) (h:∀ a,Z' a->Z a\/H a = none):Ext Z H H2:=by
 refine ⟨λa o q n=>e'.keep a o (e.keep a o q n) λz=>?_,λa xs q=>e'.tup a xs (e.tup a xs q),λa o u q=>e'.dt a o u (e.dt a o u q),λa q=>e'.there a (e.there a q)⟩
 rcases h a z with z | z
 ·exact n z
 ·rw [q] at z; cases z
def KL:HO->Prop
 | .lst _=>True
 | .dK _=>True
 | .ins _ _ _=>True
 | _=>False
theorem Ext.ON (hp:H p = some o0) (hc:KL o0) (hz:Z p):Ext Z H (upd H p o):=by
 refine ⟨λa u q n=>?_,λa ys q=>?_,λa u w q=>?_,λa q=>?_⟩
 ·rw [aZ (λe:a = p=>n (by rw [e]; exact hz))]; exact q
 ·rw [aZ (wq q hp (λz=>by subst z; exact hc))]; exact q
 ·rw [aZ (wq q hp (λz=>by subst z; exact hc))]; exact q
 ·by_cases e:a = p
  ·subst e; rw [bj]; exact λz=>nomatch z
  ·rw [aZ e]; exact q
theorem Ext.upd (hp:H p = some (.lst xs)) (hz:Z p):Ext Z H (upd H p o):=by
 refine ⟨λa u q n=>?_,λa ys q=>?_,λa u w q=>?_,λa q=>?_⟩
 ·rw [aZ (λe:a = p=>n (by rw [e]; exact hz))]; exact q
 ·rw [aZ (wq q hp nofun)]; exact q
 ·rw [aZ (wq q hp nofun)]; exact q
 ·by_cases e:a = p
  ·subst e; rw [bj]; exact λz=>nomatch z
  ·rw [aZ e]; exact q
section
variable {K:W.Frag} {Z Z':Addr->Prop} {H H':Hp}
theorem Ext.Ib (e:Ext Z H H') (h:dz K H a xs):dz K H' a xs:=by
 rcases h with (h | ⟨o,h⟩) | h
 ·exact .inl (.inl (e.tup _ _ h))
 ·exact .inl (.inr ⟨o,e.dt _ _ _ h⟩)
 ·exact .inr h
theorem Ext.vT (e:Ext Z H H') (hz:∀ a,Z a->Z' a) (h:vY K Z' H a xs):vY K Z' H' a xs:=by
 rcases h with h | ⟨o,h⟩
 ·exact .inl ⟨e.keep _ _ h.1 λz=>h.2 (hz _ z),h.2⟩
 ·exact .inr ⟨o,e.dt _ _ _ h⟩
mutual
theorem Rp.mono (e:Ext Z H H') (hz:∀ a,Z a->Z' a):∀ {d:Dv} {v:V},Rp K Z' H d v->Rp K Z' H' d v
 | .non,_,h=>h
 | .bl _,_,h=>h
 | .int _,_,h=>h
 | .str _,_,h=>h
 | .tup l,_,⟨a,xs,h0,h1,h2,h3⟩=>⟨a,xs,h0,e.Ib h1,h2,a7.mono e hz h3⟩
 | .lst l,_,⟨a,xs,h0,h1,h2,h3⟩=>⟨a,xs,h0,e.vT hz h1,h2,a7.mono e hz h3⟩
 | .seq l,_,⟨a,xs,h0,h1,h4,h2,h3⟩=>⟨a,xs,h0,h4 H' e.dt,λH2 k=>h4 H2 λa o u q=>k a o u (e.dt a o u q),h2,a7.mono e hz h3⟩
 | .ob _,_,h=>h
 | .exc _,_,⟨ea,oe,h0,h1,h2,h3⟩=>⟨ea,oe,h0,e.keep _ _ h1 λz=>h3 (hz _ z),h2,h3⟩
theorem a7.mono (e:Ext Z H H') (hz:∀ a,Z a->Z' a):∀ {l:List Dv} {xs:List V},a7 K Z' H l xs->a7 K Z' H' l xs
 | [],_,h=>h
 | d::l,_,⟨x,r,h0,h1,h2⟩=>⟨x,r,h0,Rp.mono e hz h1,a7.mono e hz h2⟩
end
theorem vY.weak (hz:∀ a,Z' a->Z a\/H a = none) (h:vY K Z H a xs):vY K Z' H a xs:=by
 rcases h with h | h
 ·refine .inl ⟨h.1,λz=>?_⟩
  rcases hz a z with z | z
  ·exact h.2 z
  ·rw [h.1] at z; cases z
 ·exact .inr h
mutual
theorem Rp.weak (hz:∀ a,Z' a->Z a\/H a = none):∀ {d:Dv} {v:V},Rp K Z H d v->Rp K Z' H d v
 | .non,_,h=>h
 | .bl _,_,h=>h
 | .int _,_,h=>h
 | .str _,_,h=>h
 | .tup l,_,⟨a,xs,h0,h1,h2,h3⟩=>⟨a,xs,h0,h1,h2,a7.weak hz h3⟩
 | .lst l,_,⟨a,xs,h0,h1,h2,h3⟩=>⟨a,xs,h0,h1.weak hz,h2,a7.weak hz h3⟩
 | .seq l,_,⟨a,xs,h0,h1,h4,h2,h3⟩=>⟨a,xs,h0,h1,h4,h2,a7.weak hz h3⟩
 | .ob _,_,h=>h
 | .exc _,_,⟨ea,oe,h0,h1,h2,h3⟩=>⟨ea,oe,h0,h1,h2,λz=>(hz _ z).elim h3 λz=>by rw [h1] at z; cases z⟩
theorem a7.weak (hz:∀ a,Z' a->Z a\/H a = none):∀ {l:List Dv} {xs:List V},a7 K Z H l xs->a7 K Z' H l xs
 | [],_,h=>h
 | d::l,_,⟨x,r,h0,h1,h2⟩=>⟨x,r,h0,Rp.weak hz h1,a7.weak hz h2⟩
end
theorem Rp.same (s:aK H H') (h:Rp K Z H d v):Rp K Z H' d v:=h.mono (s.ext (λ_=>False)) (λ_ z=>z.elim)
theorem a7.same (s:aK H H') (h:a7 K Z H d v):a7 K Z H' d v:=h.mono (s.ext (λ_=>False)) (λ_ z=>z.elim)
theorem a7.len:∀ {l:List Dv} {xs:List V},a7 K Z H l xs->xs.length = l.length
 | [],_,h=>by rw [show _ = [] from h]; rfl
 | d::l,_,⟨x,r,h0,_,h2⟩=>by rw [h0]; simp [a7.len h2]
theorem a7.get:∀ {l:List Dv} {xs:List V} {i:Nat} {d:Dv},a7 K Z H l xs->l[i]? = some d->∃ x,xs[i]? = some x/\Rp K Z H d x
 | [],_,_,_,_,e=>by simp at e
 | d::l,_,0,d',⟨x,r,h0,h1,h2⟩,e=>by
   subst h0
   simp at e; subst e
   exact ⟨x,rfl,h1⟩
 | d::l,_,i+1,d',⟨x,r,h0,h1,h2⟩,e=>by
   subst h0
   obtain ⟨y,q1,q2⟩:=a7.get (i:=i) h2 (by simpa using e)
   exact ⟨y,by simpa using q1,q2⟩
theorem a7.app:∀ {l l':List Dv} {xs xs':List V},a7 K Z H l xs->a7 K Z H l' xs'->a7 K Z H (l++l') (xs++xs')
 | [],_,_,_,h,h'=>by rw [show _ = [] from h]; exact h'
 | d::l,_,_,_,⟨x,r,h0,h1,h2⟩,h'=>by subst h0; exact ⟨x,_,rfl,h1,a7.app h2 h'⟩
theorem a7.one (h:Rp K Z H d x):a7 K Z H [d] [x]:=⟨x,[],rfl,h,rfl⟩
theorem a7.drop:∀ {l:List Dv} {xs:List V} (n:Nat),a7 K Z H l xs->a7 K Z H (l.drop n) (xs.drop n)
 | _,_,0,h=>h
 | [],_,n+1,h=>by rw [show _ = [] from h]; simp; rfl
 | d::l,_,n+1,⟨x,r,h0,h1,h2⟩=>by subst h0; exact a7.drop n h2
theorem a7.take:∀ {l:List Dv} {xs:List V} (n:Nat),a7 K Z H l xs->a7 K Z H (l.take n) (xs.take n)
 | _,_,0,h=>by simp; rfl
 | [],_,n+1,h=>by rw [show _ = [] from h]; simp; rfl
 | d::l,_,n+1,⟨x,r,h0,h1,h2⟩=>by subst h0; exact ⟨x,_,rfl,h1,a7.take n h2⟩
theorem Rp.sl (h:Rp K Z H (.lst l) v):∃ a xs,v = .ref a/\Rd H a (.lst xs)/\l.length<=sizeLine/\a7 K Z H l xs:=by
 obtain ⟨a,xs,h0,h1,h2,h3⟩:=h
 exact ⟨a,xs,h0,h1.rd,h2,h3⟩
end
def gq (K:W.Frag) (Z:Addr->Prop) (H:Hp):Dv->V->Prop
 | .lst l,v=>∃ a xs,v = .ref a/\Rd H a (.lst xs)/\l.length<=sizeLine/\a7 K Z H l xs
 | d,v=>Rp K Z H d v
theorem Rp.b {K:W.Frag} {Z:Addr->Prop} {H:Hp} {d:Dv} {v:V} (h:Rp K Z H d v):gq K Z H d v:=by
 cases d with
 | lst l=>exact h.sl
 | _=>exact h
theorem gq.same {K:W.Frag} {Z:Addr->Prop} {H H':Hp} {d:Dv} {v:V} (s:aK H H') (h:gq K Z H d v):gq K Z H' d v:=by
 cases d with
 | lst l=>obtain ⟨a,xs,h0,h1,h2,h3⟩:=h; exact ⟨a,xs,h0,s.rd h1,h2,h3.same s⟩
 | non=>exact h
 | bl b=>exact h
 | int b=>exact h
 | str b=>exact h
 | tup b=>exact Rp.same (K:=K) (Z:=Z) (d:=.tup b) s h
 | seq b=>exact Rp.same (K:=K) (Z:=Z) (d:=.seq b) s h
 | ob b=>exact h
 | exc c=>exact Rp.same (K:=K) (Z:=Z) (d:=.exc c) s h
inductive Cell where
 | v (d:Dv) | m (l:List Dv) | b (l:List Dv)
inductive Ob where
 | ins (c:Str) (fs:List (Str×Dv)) | dct (kvs:List (Key×Dv)) | ls (l:List Dv)
abbrev cw:=Addr->Option Ob
def dh {α:Type} (K:W.Frag) (Z:Addr->Prop) (H:Hp):List (α×Dv)->List (α×V)->Prop
 | [],r=>r = []
 | (k,d)::l,r=>∃ v s,r = (k,v)::s/\Rp K Z H d v/\dh K Z H l s
def kS (K:W.Frag) (Z:Addr->Prop) (H:Hp) (a:Addr):Ob->Prop
 | .ins c fs=>∃ dx vs,H a = some (.ins (dE K c) dx vs)/\dh K Z H fs vs
 | .dct kvs=>∃ vs,H a = some (.dK vs)/\dh K Z H kvs vs
 | .ls l=>∃ xs,H a = some (.lst xs)/\l.length<=sizeLine/\a7 K Z H l xs
def oi (K:W.Frag) (Z:Addr->Prop) (τ:cw) (H:Hp):Prop:=∀ a o,τ a = some o->Z a/\kS K Z H a o
section
variable {K:W.Frag} {Z Z':Addr->Prop} {H H':Hp} {α:Type}
theorem dh.mono (e:Ext Z H H') (hz:∀ a,Z a->Z' a):∀ {l:List (α×Dv)} {r:List (α×V)},dh K Z' H l r->dh K Z' H' l r
 | [],_,h=>h
 | (k,d)::l,_,⟨v,s,h0,h1,h2⟩=>⟨v,s,h0,h1.mono e hz,dh.mono e hz h2⟩
theorem dh.weak (hz:∀ a,Z' a->Z a\/H a = none):∀ {l:List (α×Dv)} {r:List (α×V)},dh K Z H l r->dh K Z' H l r
 | [],_,h=>h
 | (k,d)::l,_,⟨v,s,h0,h1,h2⟩=>⟨v,s,h0,h1.weak hz,dh.weak hz h2⟩
theorem kS.mono (e:Ext Z H H') (hz:∀ a,Z a->Z' a) (ha:H' a = H a) (h:kS K Z' H a o):kS K Z' H' a o:=by
 cases o with
 | ins C fs=>obtain ⟨dx,vs,h1,h2⟩:=h; exact ⟨dx,vs,ha.trans h1,h2.mono e hz⟩
 | dct kvs=>obtain ⟨vs,h1,h2⟩:=h; exact ⟨vs,ha.trans h1,h2.mono e hz⟩
 | ls l=>obtain ⟨xs,h1,h2,h3⟩:=h; exact ⟨xs,ha.trans h1,h2,h3.mono e hz⟩
theorem kS.weak (hz:∀ a,Z' a->Z a\/H a = none) (h:kS K Z H a o):kS K Z' H a o:=by
 cases o with
 | ins C fs=>obtain ⟨dx,vs,h1,h2⟩:=h; exact ⟨dx,vs,h1,h2.weak hz⟩
 | dct kvs=>obtain ⟨vs,h1,h2⟩:=h; exact ⟨vs,h1,h2.weak hz⟩
 | ls l=>obtain ⟨xs,h1,h2,h3⟩:=h; exact ⟨xs,h1,h2,h3.weak hz⟩
theorem kS.at (h:kS K Z H a o):∃ u,H a = some u/\KL u:=by
 cases o with
 | ins C fs=>obtain ⟨dx,vs,h1,h2⟩:=h; exact ⟨_,h1,trivial⟩
 | dct kvs=>obtain ⟨vs,h1,h2⟩:=h; exact ⟨_,h1,trivial⟩
 | ls l=>obtain ⟨xs,h1,h2,h3⟩:=h; exact ⟨_,h1,trivial⟩
theorem kS.same (s:aK H H') (h:kS K Z H a o):kS K Z H' a o:=by
 obtain ⟨u,hu,_⟩:=h.at
 exact h.mono (s.ext (λ_=>False)) (λ_ z=>z.elim) ((s a u hu).trans hu.symm)
end
structure Ev where
 c:List (Option Cell)
 t:cw
def Ev.set (ρ:Ev) (i:Nat) (x:Option Cell):Ev:={ ρ with c:=ρ.c.set i x }
abbrev Ev.length (ρ:Ev):Nat:=ρ.c.length
instance:GetElem? Ev Nat (Option Cell) (λρ i=>i < ρ.c.length) where
 getElem ρ i h:=ρ.c[i]
 getElem? ρ i:=ρ.c[i]?
@[simp] theorem Ev.length_set (ρ:Ev) (i:Nat) (x:Option Cell):(ρ.set i x).c.length = ρ.c.length:=by simp [Ev.set]
abbrev ZU (B P:Addr->Prop):Addr->Prop:=λa=>B a\/P a
structure aM (K:W.Frag) (B P:Addr->Prop) (ρ:Ev) (σ:St) (H:Hp):Prop where
 len:ρ.length = σ.length
 old:∀ a,ZU B P a->H a≠none
 vs:∀ (i:Nat) d,ρ[i]? = some (some (.v d))->∃ v,σ[i]? = some (some v)/\Rp K (ZU B P) H d v
 bs:∀ (i:Nat) l,ρ[i]? = some (some (.b l))->∃ p xs,σ[i]? = some (some (.ref p))/\¬P p/\H p = some (.lst xs)/\l.length<=sizeLine/\a7 K (ZU B P) H l xs
 ms:∀ (i:Nat) l,ρ[i]? = some (some (.m l))->∃ p xs,σ[i]? = some (some (.ref p))/\P p/\¬B p/\H p = some (.lst xs)/\l.length<=sizeLine/\a7 K (ZU B P) H l xs
 inj:∀ (i j:Nat) l l' p,ρ[i]? = some (some (.m l))->ρ[j]? = some (some (.m l'))->σ[i]? = some (some (.ref p))->σ[j]? = some (some (.ref p))->i = j
 ob:∀ a o,ρ.t a = some o->B a/\¬P a/\kS K (ZU B P) H a o
 bo:∀ (i:Nat) l p,ρ[i]? = some (some (.b l))->σ[i]? = some (some (.ref p))->ρ.t p = none
section
variable {K:W.Frag} {B P:Addr->Prop} {ρ:Ev} {σ:St} {H H':Hp}
theorem aM.same (r:aM K B P ρ σ H) (s:aK H H'):aM K B P ρ σ H':=
 ⟨r.len,λa z=>(s.ext (λ_=>False)).there a (r.old a z),λi d e=>by
   obtain ⟨v,h1,h2⟩:=r.vs i d e; exact ⟨v,h1,h2.same s⟩,λi l e=>by
   obtain ⟨p,xs,h1,h0,h2,h3,h4⟩:=r.bs i l e; exact ⟨p,xs,h1,h0,s _ _ h2,h3,h4.same s⟩,λi l e=>by
   obtain ⟨p,xs,h1,h2,h3,h4,h5,h6⟩:=r.ms i l e; exact ⟨p,xs,h1,h2,h3,s _ _ h4,h5,h6.same s⟩,r.inj,λa o e=>⟨(r.ob a o e).1,(r.ob a o e).2.1,(r.ob a o e).2.2.same s⟩,r.bo⟩
theorem aM.st (r:aM K B P ρ σ H):oi K (ZU B P) ρ.t H:=λa o e=>⟨.inl (r.ob a o e).1,(r.ob a o e).2.2⟩
theorem av {l:Ev} {i j:Nat} {x y:Option Cell} (h:(l.set i x)[j]? = some y):(i = j/\y = x)\/(i≠j/\l[j]? = some y):=by
 replace h:(l.c.set i x)[j]? = some y:=h
 by_cases e:i = j
 ·subst e
  rw [List.getElem?_set] at h
  simp only [if_true] at h
  split at h
  ·exact .inl ⟨rfl,(Option.some.inj h).symm⟩
  ·cases h
 ·rw [List.getElem?_set_ne e] at h
  exact .inr ⟨e,h⟩
theorem pY (hl:ρ.length = σ.length) (h:(ρ.set i c)[i]? = some y):(σ.set i x)[i]? = some x:=by
 have:i < (ρ.c.set i c).length:=(List.getElem?_eq_some_iff.mp h).1
 rw [List.length_set] at this
 replace hl:ρ.c.length = σ.length:=hl
 rw [List.getElem?_set]
 simp only [if_true]
 rw [if_pos (by omega)]
theorem aM.set (r:aM K B P ρ σ H) (i:Nat) {d:Dv} {x:V} (h:Rp K (ZU B P) H d x):aM K B P (ρ.set i (some (.v d))) (σ.set i (some x)) H:=by
 refine ⟨by simp [r.len],r.old,λj d' e=>?_,λj l e=>?_,λj l e=>?_,λj k l l' p e1 e2 h1 h2=>?_,r.ob,λj l p e h1=>?_⟩
 ·rcases av e with ⟨rfl,q⟩ | ⟨n,q⟩
  ·cases q; exact ⟨x,pY r.len e,h⟩
  ·obtain ⟨v,h1,h2⟩:=r.vs j d' q
   exact ⟨v,by rw [List.getElem?_set_ne n]; exact h1,h2⟩
 ·rcases av e with ⟨rfl,q⟩ | ⟨n,q⟩
  ·cases q
  ·obtain ⟨p,xs,h1,h2⟩:=r.bs j l q
   exact ⟨p,xs,by rw [List.getElem?_set_ne n]; exact h1,h2⟩
 ·rcases av e with ⟨rfl,q⟩ | ⟨n,q⟩
  ·cases q
  ·obtain ⟨p,xs,h1,h2⟩:=r.ms j l q
   exact ⟨p,xs,by rw [List.getElem?_set_ne n]; exact h1,h2⟩
 ·rcases av e1 with ⟨rfl,q⟩ | ⟨n1,q1⟩
  ·cases q
  rcases av e2 with ⟨rfl,q⟩ | ⟨n2,q2⟩
  ·cases q
  rw [List.getElem?_set_ne n1] at h1
  rw [List.getElem?_set_ne n2] at h2
  exact r.inj j k l l' p q1 q2 h1 h2
 ·rcases av e with ⟨rfl,q⟩ | ⟨n,q⟩
  ·cases q
  rw [List.getElem?_set_ne n] at h1
  exact r.bo j l p q h1
theorem aM.Kt (r:aM K B P ρ σ H) (i:Nat) {l:List Dv} {p:Addr} {xs:List V} (s:aK H H') (hn:H p = none) (hp:H' p = some (.lst xs)) (hl:l.length<=sizeLine) (h:a7 K (λa=>ZU B P a\/a = p) H' l xs):
  aM K B (λa=>P a\/a = p) (ρ.set i (some (.m l))) (σ.set i (some (.ref p))) H':=by
 have np:∀ a,ZU B P a->a≠p:=λa z e=>r.old a z (e▸hn)
 have zz:∀ a,ZU B (λa=>P a\/a = p) a->ZU B P a\/a = p:=λa z=>by
  rcases z with z | z | z
  ·exact .inl (.inl z)
  ·exact .inl (.inr z)
  ·exact .inr z
 have zn:∀ a,ZU B (λa=>P a\/a = p) a->ZU B P a\/H a = none:=λa z=>by
  rcases zz a z with z | z
  ·exact .inl z
  ·exact .inr (z▸hn)
 refine ⟨by simp [r.len],λa z=>?_,λj d' e=>?_,λj l' e=>?_,λj l' e=>?_,λj k l1 l2 q e1 e2 h1 h2=>?_,λa o e=>⟨(r.ob a o e).1,λz=>?_,((r.ob a o e).2.2.weak zn).same s⟩,λj l1 q e h1=>?_⟩
 ·rcases zz a z with z | z
  ·exact (s.ext (λ_=>False)).there a (r.old a z)
  ·subst z; rw [hp]; exact λz=>nomatch z
 ·rcases av e with ⟨rfl,q⟩ | ⟨n,q⟩
  ·cases q
  ·obtain ⟨v,h1,h2⟩:=r.vs j d' q
   exact ⟨v,by rw [List.getElem?_set_ne n]; exact h1,(h2.weak zn).same s⟩
 ·rcases av e with ⟨rfl,q⟩ | ⟨n,q⟩
  ·cases q
  ·obtain ⟨p',xs',h1,h0,h2,h3,h4⟩:=r.bs j l' q
   have npb:¬(P p'\/p' = p):=by
    rintro (z | z)
    ·exact h0 z
    ·rw [z,hn] at h2; cases h2
   exact ⟨p',xs',by rw [List.getElem?_set_ne n]; exact h1,npb,s _ _ h2,h3,(h4.weak zn).same s⟩
 ·rcases av e with ⟨rfl,q⟩ | ⟨n,q⟩
  ·cases q
   refine ⟨p,xs,pY r.len e,.inr rfl,λz=>np p (.inl z) rfl,hp,hl,h.weak λa z=>.inl (zz a z)⟩
  ·obtain ⟨p',xs',h1,h2,h3,h4,h5,h6⟩:=r.ms j l' q
   exact ⟨p',xs',by rw [List.getElem?_set_ne n]; exact h1,.inl h2,h3,s _ _ h4,h5,(h6.weak zn).same s⟩
 ·rcases av e1 with ⟨rfl,q1⟩ | ⟨n1,q1⟩
  ·rcases av e2 with ⟨rfl,q2⟩ | ⟨n2,q2⟩
   ·rfl
   ·rw [pY r.len e1] at h1
    cases h1
    rw [List.getElem?_set_ne n2] at h2
    obtain ⟨p',xs',h3,h4,_⟩:=r.ms k l2 q2
    rw [h2] at h3
    cases h3
    exact absurd rfl (np _ (.inr h4))
  ·rcases av e2 with ⟨rfl,q2⟩ | ⟨n2,q2⟩
   ·rw [pY r.len e2] at h2
    cases h2
    rw [List.getElem?_set_ne n1] at h1
    obtain ⟨p',xs',h3,h4,_⟩:=r.ms j l1 q1
    rw [h1] at h3
    cases h3
    exact absurd rfl (np _ (.inr h4))
   ·rw [List.getElem?_set_ne n1] at h1
    rw [List.getElem?_set_ne n2] at h2
    exact r.inj j k l1 l2 q q1 q2 h1 h2
 ·rcases z with z | z
  ·exact (r.ob a o e).2.1 z
  ·exact np a (.inl (r.ob a o e).1) z
 ·rcases av e with ⟨rfl,q1⟩ | ⟨n,q1⟩
  ·cases q1
  rw [List.getElem?_set_ne n] at h1
  exact r.bo j l1 q q1 h1
theorem aM.change (r:aM K B P ρ σ H) {i:Nat} {l l':List Dv} {p:Addr} {xs xs':List V} (hi:ρ[i]? = some (some (.m l))) (hs:σ[i]? = some (some (.ref p))) (hp:H p = some (.lst xs)) (hl:l'.length<=sizeLine) (hx:a7 K (ZU B P) H l' xs'):
  aM K B P (ρ.set i (some (.m l'))) σ (upd H p (.lst xs'))/\Ext P H (upd H p (.lst xs')):=by
 obtain ⟨p0,xs0,h1,h2,h3,h4,h5,h6⟩:=r.ms i l hi
 rw [hs] at h1
 cases h1
 have ex:Ext P H (upd H p (.lst xs')):=Ext.upd hp h2
 have exZ:Ext (ZU B P) H (upd H p (.lst xs')):=Ext.upd hp (.inr h2)
 refine ⟨⟨by simp [r.len],λa z=>ex.there a (r.old a z),λj d' e=>?_,λj l' e=>?_,λj l'' e=>?_,λj k l1 l2 q e1 e2 g1 g2=>?_,λa o e=>⟨(r.ob a o e).1,(r.ob a o e).2.1,(r.ob a o e).2.2.mono exZ (λ_ z=>z) (aZ λz=>(r.ob a o e).2.1 (z▸h2))⟩,λj l1 q e g=>?_⟩,ex⟩
 ·rcases av e with ⟨rfl,q⟩ | ⟨n,q⟩
  ·cases q
  ·obtain ⟨v,g1,g2⟩:=r.vs j d' q
   exact ⟨v,g1,g2.mono exZ λ_ z=>z⟩
 ·rcases av e with ⟨rfl,q⟩ | ⟨n,q⟩
  ·cases q
  ·obtain ⟨p',ys,g1,g0,g2,g3,g4⟩:=r.bs j l' q
   exact ⟨p',ys,g1,g0,by rw [aZ (λe=>g0 (by rw [e]; exact h2))]; exact g2,g3,g4.mono exZ λ_ z=>z⟩
 ·rcases av e with ⟨rfl,q⟩ | ⟨n,q⟩
  ·cases q
   exact ⟨p,xs',hs,h2,h3,bj,hl,hx.mono exZ λ_ z=>z⟩
  ·obtain ⟨p',ys,g1,g2,g3,g4,g5,g6⟩:=r.ms j l'' q
   have np:p'≠p:=λe=>n (r.inj i j l l'' p hi q hs (e▸g1))
   exact ⟨p',ys,g1,g2,g3,by rw [aZ np]; exact g4,g5,g6.mono exZ λ_ z=>z⟩
 ·have m1:∃ l,ρ[j]? = some (some (.m l)):=by
   rcases av e1 with ⟨rfl,_⟩ | ⟨n,q⟩
   ·exact ⟨l,hi⟩
   ·exact ⟨l1,q⟩
  have m2:∃ l,ρ[k]? = some (some (.m l)):=by
   rcases av e2 with ⟨rfl,_⟩ | ⟨n,q⟩
   ·exact ⟨l,hi⟩
   ·exact ⟨l2,q⟩
  obtain ⟨l1',m1⟩:=m1
  obtain ⟨l2',m2⟩:=m2
  exact r.inj j k l1' l2' q m1 m2 g1 g2
 ·rcases av e with ⟨rfl,q1⟩ | ⟨n,q1⟩
  ·cases q1
  exact r.bo j l1 q q1 g
theorem aM.freeze (r:aM K B P ρ σ H) {i:Nat} {l:List Dv} (hi:ρ[i]? = some (some (.m l))):∃ p,aM K B (λa=>P a/\a≠p) (ρ.set i (some (.v (.lst l)))) σ H:=by
 obtain ⟨p,xs,h1,h2,h3,h4,h5,h6⟩:=r.ms i l hi
 have zz:∀ a,ZU B (λa=>P a/\a≠p) a->ZU B P a\/H a = none:=λa z=>by
  rcases z with z | z
  ·exact .inl (.inl z)
  ·exact .inl (.inr z.1)
 have z0:∀ a,ZU B (λa=>P a/\a≠p) a->ZU B P a:=λa z=>by
  rcases z with z | z
  ·exact .inl z
  ·exact .inr z.1
 refine ⟨p,⟨by simp [r.len],λa z=>r.old a (z0 a z),λj d' e=>?_,λj l' e=>?_,λj l' e=>?_,λj k l1 l2 q e1 e2 g1 g2=>?_,λa o e=>⟨(r.ob a o e).1,λz=>(r.ob a o e).2.1 z.1,(r.ob a o e).2.2.weak zz⟩,λj l1 q e g=>?_⟩⟩
 ·rcases av e with ⟨rfl,q⟩ | ⟨n,q⟩
  ·cases q
   refine ⟨.ref p,h1,p,xs,rfl,.inl ⟨h4,λz=>?_⟩,h5,h6.weak zz⟩
   rcases z with z | z
   ·exact h3 z
   ·exact z.2 rfl
  ·obtain ⟨v,g1,g2⟩:=r.vs j d' q
   exact ⟨v,g1,g2.weak zz⟩
 ·rcases av e with ⟨rfl,q⟩ | ⟨n,q⟩
  ·cases q
  ·obtain ⟨p',ys,g1,g0,g2,g3,g4⟩:=r.bs j l' q
   exact ⟨p',ys,g1,λz=>g0 z.1,g2,g3,g4.weak zz⟩
 ·rcases av e with ⟨rfl,q⟩ | ⟨n,q⟩
  ·cases q
  ·obtain ⟨p',ys,g1,g2,g3,g4,g5,g6⟩:=r.ms j l' q
   have np:p'≠p:=λe=>n (r.inj i j l l' p hi q h1 (e▸g1))
   exact ⟨p',ys,g1,⟨g2,np⟩,g3,g4,g5,g6.weak zz⟩
 ·rcases av e1 with ⟨rfl,q⟩ | ⟨n1,q1⟩
  ·cases q
  rcases av e2 with ⟨rfl,q⟩ | ⟨n2,q2⟩
  ·cases q
  exact r.inj j k l1 l2 q q1 q2 g1 g2
 ·rcases av e with ⟨rfl,q1⟩ | ⟨n,q1⟩
  ·cases q1
  exact r.bo j l1 q q1 g
end
end L2
end
section
namespace L2
open PySem PySem.Spec PyProof.Rows
abbrev ME:=Ev->Rs Dv
abbrev MA:=Ev->Rs (List Dv)
abbrev MT:=Ev->Rs Bool
def Out {α:Type} (mg:Str->Option Value) (H:Hp) (E:XK) (r:Rs α) (k:α->Hp->Prop):Prop:=match r with
 | .ok a=>∀ H',aK H H'->k a H'
 | .ex c=>∀ H',aK H H'->E (.ref (aR mg c)) none H'
 | .bad=>False
section
variable {α β:Type} {mg:Str->Option Value} {H H1:Hp} {E:XK} {r:Rs α} {k k':α->Hp->Prop} {kb:β->Hp->Prop}
theorem Out.mono (h:Out mg H E r k) (s:aK H H1):Out mg H1 E r k:=by
 cases r with
 | ok a=>exact λH' s'=>h H' (s.trans s')
 | ex c=>exact λH' s'=>h H' (s.trans s')
 | bad=>exact h.elim
theorem Out.imp (h:Out mg H E r k) (f:∀ a H',r = .ok a->aK H H'->k a H'->k' a H'):Out mg H E r k':=by
 cases r with
 | ok a=>exact λH' s'=>f a H' rfl s' (h H' s')
 | ex c=>exact h
 | bad=>exact h.elim
theorem Out.bind (h:Out mg H E (r.bind f) kb) (g:∀ a H1,r = .ok a->aK H H1->Out mg H1 E (f a) kb->k a H1):Out mg H E r k:=by
 cases r with
 | ok a=>exact λH' s'=>g a H' rfl s' (Out.mono (r:=f a) h s')
 | ex c=>exact h
 | bad=>exact h.elim
theorem Out.ok (h:Out mg H E (.ok a) k):k a H:=h H (aK.refl _)
end
def tD (K:W.Frag) (mg:Str->Option Value) (E:XK) (m:ME):TE:=λσ H Q=>∃ B P ρ,aM K B P ρ σ H/\Out mg H E (m ρ) λd H'=>∀ v,Rp K (ZU B P) H' d v->Q v H'
def lE (K:W.Frag) (mg:Str->Option Value) (E:XK) (m:ME):TE:=λσ H Q=>∃ B P ρ,aM K B P ρ σ H/\Out mg H E (m ρ) λd H'=>∀ v,gq K (ZU B P) H' d v->Q v H'
def HY (K:W.Frag) (mg:Str->Option Value) (E:XK) (m:MA):TA:=λσ H Q=>∃ B P ρ,aM K B P ρ σ H/\Out mg H E (m ρ) λd H'=>∀ v,a7 K (ZU B P) H' d v->Q v H'
def Ei (K:W.Frag) (mg:Str->Option Value) (E:XK) (m:MT):TT:=λσ H Q=>∃ B P ρ,aM K B P ρ σ H/\Out mg H E (m ρ) λb H'=>Q b H'
def Lp (K:W.Frag) (mg:Str->Option Value) (E:XK) (m:MA):TE:=λσ H Q=>∃ B P ρ,aM K B P ρ σ H/\Out mg H E (m ρ) λl H'=>∀ p xs,H p = none->H' p = some (.lst xs)->l.length<=sizeLine->a7 K (λa=>ZU B P a\/a = p) H' l xs->Q (.ref p) H'
abbrev DE (X:Cx) (E:XK) (e:Expr) (m:ME):Prop:=PE X e (tD X.K X.mg E m)
abbrev DB (X:Cx) (E:XK) (e:Expr) (m:ME):Prop:=PE X e (lE X.K X.mg E m)
abbrev DN (X:Cx) (E:XK) (e:Expr) (m:MA):Prop:=PE X e (Lp X.K X.mg E m)
abbrev DA (X:Cx) (E:XK) (es:List Expr) (m:MA):Prop:=PA X es (HY X.K X.mg E m)
abbrev DT (X:Cx) (E:XK) (e:Expr) (m:MT):Prop:=PT X e (Ei X.K X.mg E m)
def mV (i:Nat):ME:=λρ=>match ρ[i]? with
 | some (some (.v d))=>.ok d
 | _=>.bad
def mB (i:Nat):ME:=λρ=>match ρ[i]? with
 | some (some (.v d))=>.ok d
 | some (some (.m l))=>.ok (.lst l)
 | some (some (.b l))=>.ok (.lst l)
 | _=>.bad
def mC (d:Dv):ME:=λ_=>.ok d
def m1 (f:Dv->Rs Dv) (a:ME):ME:=λρ=>(a ρ).bind f
def m2 (f:Dv->Dv->Rs Dv) (a b:ME):ME:=λρ=>(a ρ).bind λx=>(b ρ).bind λy=>f x y
def ai:MA:=λ_=>.ok []
def aa (a:ME) (r:MA):MA:=λρ=>(a ρ).bind λx=>(r ρ).bind λl=>.ok (x::l)
def gp (r:MA):ME:=λρ=>(r ρ).bind λl=>.ok (.tup l)
def bW (r:MA):ME:=λρ=>(r ρ).bind λl=>.ok (.lst l)
abbrev DF:=cw->List Dv->Rs Dv
def aI (f:DF) (a:MA):ME:=λρ=>(a ρ).bind (f ρ.t)
section
variable {X:Cx} {E:XK} {a b c e:Expr} {es:List Expr} {ma mb mc m:ME} {ms:MA} {mt mu:MT} {pos p2:Pos} {x:Str}
theorem PA.imp' (h:PA X es t) (hi:∀ σ H Q,t' σ H Q->t σ H Q):PA X es t':=λpos pins s σ H Q I q=>h pos pins s σ H Q I (hi σ H Q q)
theorem aj (i:Nat) (hN:X.N[i]? = some x:=by rfl) (hv:vy X.env.scope x:=by first | exact Or.inl rfl | exact Or.inr (Or.inl rfl) | exact Or.inr (Or.inr rfl)) (hd:(x == ("__debug__":Str)) = false:=by decide)
  (hcd:(x == ("__classdict__":Str)) = false:=by decide):DE X E (.Name x pos) (mV i):=(qv i hN hv hd hcd).imp λσ H Q ⟨B,P,ρ,r,o⟩=>by
 unfold mV at o
 split at o
 ·rename_i d h
  obtain ⟨v,h1,h2⟩:=r.vs i d h
  unfold jo
  rw [h1]
  exact o.ok v h2
 ·exact o.elim
theorem ae (i:Nat) (hN:X.N[i]? = some x:=by rfl) (hv:vy X.env.scope x:=by first | exact Or.inl rfl | exact Or.inr (Or.inl rfl) | exact Or.inr (Or.inr rfl)) (hd:(x == ("__debug__":Str)) = false:=by decide)
  (hcd:(x == ("__classdict__":Str)) = false:=by decide):DB X E (.Name x pos) (mB i):=(qv i hN hv hd hcd).imp λσ H Q ⟨B,P,ρ,r,o⟩=>by
 unfold mB at o
 split at o
 ·rename_i d h
  obtain ⟨v,h1,h2⟩:=r.vs i d h
  unfold jo
  rw [h1]
  exact o.ok v h2.b
 ·rename_i l h
  obtain ⟨p,xs,h1,h2,h3,h4,h5,h6⟩:=r.ms i l h
  unfold jo
  rw [h1]
  exact o.ok _ ⟨p,xs,rfl,.inl h4,h5,h6⟩
 ·rename_i l h
  obtain ⟨p,xs,h1,h0,h4,h5,h6⟩:=r.bs i l h
  unfold jo
  rw [h1]
  exact o.ok _ ⟨p,xs,rfl,.inl h4,h5,h6⟩
 ·exact o.elim
theorem ak (h:DE X E e m):DB X E e m:=h.imp λσ H Q ⟨B,P,ρ,r,o⟩=>⟨B,P,ρ,r,o.imp λd H' _ _ k v hv=>k v hv.b⟩
theorem A6 (h:PE X e (tC v)) (hr:∀ Z H,Rp X.K Z H d v):DE X E e (mC d):=h.imp λσ H Q ⟨B,P,ρ,r,o⟩=>o.ok v (hr _ _)
theorem au:DE X E (.Constant (.int i) j pos) (mC (.int i)):=A6 xV λ_ _=>rfl
theorem fz:DE X E (.Constant (.bool i) j pos) (mC (.bl i)):=A6 ND λ_ _=>rfl
theorem fG (h:i.length<=sizeLine:=by decide +kernel):DE X E (.Constant (.str i) j pos) (mC (.str i)):=A6 EH λ_ _=>⟨rfl,h⟩
def fF (K:W.Frag) (mg:Str->Option Value) (x:Str) (d:Dv):Prop:=∃ v,wG mg x v/\∀ Z H,Rp K Z H d v
theorem fH (h:fF X.K X.mg x d) (hg:Gl X x:=by rfl) (hd:(x == ("__debug__":Str)) = false:=by decide):DE X E (.Name x pos) (mC d):=by
 obtain ⟨v,h1,h2⟩:=h
 exact A6 (M9 h1 hg hd) h2
theorem m9:DE X E (.UnaryOp .USub (.Constant (.int n) k p2) pos) (mC (.int (-n))):=A6 Nv λ_ _=>rfl
theorem D0 {m n:Int} {k k2:Nat} {p1:Pos} (hn:0<=n/\n<=1000000/\m.natAbs < 2 ^ 64:=by decide):DE X E (.BinOp (.Constant (.int m) k p1) .Pow (.Constant (.int n) k2 p2) pos) (mC (.int (m ^ n.toNat))):=A6 (L9 hn) λ_ _=>rfl
theorem aA:DA X E [] ai:=dm.imp' λσ H Q ⟨B,P,ρ,r,o⟩=>o.ok [] rfl
theorem af (ha:DE X E e m) (hr:DA X E es ms) (hs:isStar e = false:=by rfl):DA X E (e::es) (aa m ms):=(d6 ha hr hs).imp' λσ H Q ⟨B,P,ρ,r,o⟩=>
 ⟨B,P,ρ,r,o.bind λd H1 _ s1 o1 v hv=>⟨B,P,ρ,r.same s1,o1.bind λl H2 _ s2 o2 vs hvs=>o2.ok (v::vs) ⟨v,vs,rfl,hv.same s2,hvs⟩⟩⟩
def Mn (ms:MA):Prop:=∀ ρ l,ms ρ = .ok l->l.length<=sizeLine
theorem t9 (h:DA X E es ms) (hn:Mn ms):DE X E (.Tuple es k pos) (gp ms):=(Dx h).imp λσ H Q ⟨B,P,ρ,r,o⟩=>
 ⟨B,P,ρ,r,o.bind λl H1 e1 s1 o1 vs hv=>by
   have hl:=hn ρ l e1
   refine ⟨by rw [hv.len]; exact hl,λp hp=>?_⟩
   have s2:aK H1 (upd H1 p (.tup vs)):=(aK.refl _).upd hp
   exact o1 _ s2 _ ⟨p,vs,rfl,dz.of bj,hl,hv.same s2⟩⟩
theorem gU (h:DA X E es ms) (hn:Mn ms):DN X E (.List es pos) ms:=(Ew h).imp λσ H Q ⟨B,P,ρ,r,o⟩=>
 ⟨B,P,ρ,r,o.imp λl H1 e1 s1 k vs hv=>by
   have hl:=hn ρ l e1
   refine ⟨by rw [hv.len]; exact hl,λp hp=>?_⟩
   have s2:aK H1 (upd H1 p (.lst vs)):=(aK.refl _).upd hp
   exact (o.mono s1 |>.imp (k':=λl H'=>∀ p xs,H p = none->H' p = some (.lst xs)->l.length<=sizeLine->a7 X.K (λa=>ZU B P a\/a = p) H' l xs->Q (.ref p) H') λ_ _ _ _ k=>k) |> λz=>by
    rw [e1] at z
    exact z _ s2 p vs (s1.free hp) bj hl ((hv.weak λa z=>by
     rcases z with z | z
     ·exact .inl z
     ·exact .inr (by rw [z]; exact hp)).same s2)⟩
theorem iF (h:DN X E e ms):DE X E e (bW ms):=h.imp λσ H Q ⟨B,P,ρ,r,o⟩=>
 ⟨B,P,ρ,r,o.bind λl H1 _ s1 o1 p xs hp hx hl hr=>o1.ok _ ⟨p,xs,rfl,.inl ⟨hx,λz=>r.old p z hp⟩,hl,hr.weak λa z=>.inl (.inl z)⟩⟩
def c6 (K:W.Frag) (r:R2) (f:Dv->Dv->Rs Dv):Prop:=∀ (mg:Str->Option Value) (E:XK) (Z:Addr->Prop) (H:Hp) (x y:V) (d d':Dv) (Q:VK),(∀ a,Z a->H a≠none)->gq K Z H d x->gq K Z H d' y->
 Out mg H E (f d d') (λr H'=>∀ v,Rp K Z H' r v->Q v H')->r x y H Q
def ng (K:W.Frag) (r:V->Hp->VK->Prop) (f:Dv->Rs Dv):Prop:=∀ (mg:Str->Option Value) (E:XK) (Z:Addr->Prop) (H:Hp) (x:V) (d:Dv) (Q:VK),(∀ a,Z a->H a≠none)->gq K Z H d x->
 Out mg H E (f d) (λr H'=>∀ v,Rp K Z H' r v->Q v H')->r x H Q
theorem tJ (hp:c6 X.K r f) (h:tD X.K X.mg E (m2 f ma mb) σ H Q):xn r (lE X.K X.mg E ma) (lE X.K X.mg E mb) σ H Q:=by
 obtain ⟨B,P,ρ,r,o⟩:=h
 exact ⟨B,P,ρ,r,o.bind λd H1 _ s1 o1 v hv=>⟨B,P,ρ,r.same s1,o1.bind λd2 H2 _ s2 o2 v2 hv2=>hp _ _ _ _ _ _ _ _ _ (r.same (s1.trans s2)).old (hv.same s2) hv2 o2⟩⟩
theorem dX (ho:b4 X (binaryOp op) r) (hp:c6 X.K r f) (ha:DB X E a ma) (hb:DB X E b mb):DE X E (.BinOp a op b pos) (m2 f ma mb):=(Of ho ha hb).imp λσ H Q h=>tJ hp h
theorem tT (ho:b4 X (compareOp op) r) (hp:c6 X.K r f) (ha:DB X E a ma) (hb:DB X E b mb) (hm:behindInMarks op b = false:=by first | exact tf _ (by decide) (by decide) | with_unfolding_all rfl):
  DE X E (.Compare a [op] [b] pos) (m2 f ma mb):=(NC ho ha hb hm).imp λσ H Q h=>tJ hp h
def fY:Dv->Rs Bool
 | .bl b=>.ok b
 | _=>.bad
def bO (f:Dv->Dv->Rs Dv) (a b:ME):MT:=λρ=>(m2 f a b ρ).bind fY
theorem uT {mg:Str->Option Value} {H:Hp} {d:Dv} {k:Bool->Hp->Prop} {K:W.Frag} {Z:Addr->Prop} {v:V} (h:Out mg H E (fY d) k) (hv:Rp K Z H d v):AE v λb=>k b H:=by
 cases d <;> first | exact h.elim | skip
 rw [show v = _ from hv]
 exact h.ok
theorem sT {t:TE} {m:ME} {σ:St} {H:Hp} {Q:Bool->Hp->Prop} (hi:∀ Q,tD X.K X.mg E m σ H Q->t σ H Q) (h:Ei X.K X.mg E (λρ=>(m ρ).bind fY) σ H Q):cT t σ H Q:=by
 obtain ⟨B,P,ρ,r,o⟩:=h
 exact hi _ ⟨B,P,ρ,r,o.bind λd H1 _ s1 o1 v hv=>uT o1 hv⟩
theorem bM (ho:b4 X (compareOp op) r) (hp:c6 X.K r f) (ha:DB X E a ma) (hb:DB X E b mb) (hm:behindInMarks op b = false:=by first | exact tf _ (by decide) (by decide) | with_unfolding_all rfl):
  DT X E (.Compare a [op] [b] pos) (bO f ma mb):=(NP ho ha hb hm).imp λσ H Q h=>sT (λQ h=>tJ hp h) h
def oK (f g:Dv->Dv->Rs Dv) (a b c:ME):ME:=λρ=>(a ρ).bind λx=>(b ρ).bind λy=>(f x y).bind λz=>(fY z).bind λk=>if k = true then (c ρ).bind λw=>g y w else .ok (.bl false)
theorem Gr {r r':R2} {f g:Dv->Dv->Rs Dv} (hp:c6 X.K r f) (hp':c6 X.K r' g) {σ:St} {H:Hp} {Q:VK} (h:tD X.K X.mg E (oK f g ma mb mc) σ H Q):C6 r r' (lE X.K X.mg E ma) (lE X.K X.mg E mb) (lE X.K X.mg E mc) σ H Q:=by
 obtain ⟨B,P,ρ,r,o⟩:=h
 refine ⟨B,P,ρ,r,o.bind λd H1 _ s1 o1 v hv=>⟨B,P,ρ,r.same s1,o1.bind λd2 H2 _ s2 o2 v2 hv2=>?_⟩⟩
 have r2:=r.same (s1.trans s2)
 refine hp X.mg E (ZU B P) H2 v v2 d d2 _ r2.old (hv.same s2) hv2 (o2.bind λz H3 _ s3 o3 vz hz=>?_)
 have h4:=uT (K:=X.K) (Z:=ZU B P) (k:=λb H'=>if b = true then lE X.K X.mg E mc σ H' (λw' H4=>r' v2 w' H4 Q) else Q (.bl false) H') (v:=vz) (o3.bind λk H4 _ s4 o4=>?_) hz
 ·exact h4
 ·cases k with
  | true=>
    rw [if_pos rfl] at o4 ⊢
    exact ⟨B,P,ρ,r2.same (s3.trans s4),o4.bind λw H5 _ s5 o5 vw hw=>hp' X.mg E (ZU B P) H5 v2 vw d2 w _ (r2.same (s3.trans (s4.trans s5))).old (hv2.same (s3.trans (s4.trans s5))) hw o5⟩
  | false=>
    rw [if_neg Bool.false_ne_true] at o4 ⊢
    exact o4.ok _ rfl
theorem AS (ho:b4 X (compareOp op) r) (hp:c6 X.K r f) (ho':b4 X (compareOp op') r') (hp':c6 X.K r' g) (ha:DB X E a ma) (hb:DB X E b mb) (hc:DB X E c mc)
  (hm:lastMarks [op,op'] [b,c] = false:=by with_unfolding_all rfl):DE X E (.Compare a [op,op'] [b,c] pos) (oK f g ma mb mc):=(Ir ho ho' ha hb hc hm).imp λσ H Q h=>Gr hp hp' h
def mT (m:ME):MT:=λρ=>(m ρ).bind fY
def gk:Dv->Rs Bool
 | .bl b=>.ok b
 | .non=>.ok false
 | .int i=>.ok (i != 0)
 | .str y=>.ok ((y.length:Int) != 0)
 | .lst l=>.ok (!l.isEmpty)
 | .tup l=>.ok (!l.isEmpty)
 | .seq l=>.ok (!l.isEmpty)
 | .ob _=>.bad
 | .exc _=>.bad
theorem MM {mg:Str->Option Value} {K:W.Frag} {Z:Addr->Prop} {H:Hp} {d:Dv} {v:V} {k:Bool->Hp->Prop} (hv:gq K Z H d v) (h:Out mg H E (gk d) k):FP K v H λb=>k b H:=by
 have emp:∀ {l:List Dv} {xs:List V},xs.length = l.length->(!xs.isEmpty) = !l.isEmpty:=λ{l xs} e=>by
  cases l <;> cases xs <;> first | rfl | (simp at e)
 cases d with
 | non=>rw [show v = _ from hv]; exact h.ok
 | bl b=>rw [show v = _ from hv]; exact h.ok
 | int b=>rw [show v = _ from hv]; exact h.ok
 | str y=>rw [show v = _ from hv.1]; exact ⟨hv.2,h.ok⟩
 | tup l=>
   obtain ⟨a,xs,rfl,h1,h2,h3⟩:=hv
   exact .inr (.inl ⟨xs,h1,by rw [emp h3.len]; exact h.ok⟩)
 | lst l=>
   obtain ⟨a,xs,rfl,h1,h2,h3⟩:=hv
   exact .inl ⟨xs,h1.sq,by rw [emp h3.len]; exact h.ok⟩
 | seq l=>
   obtain ⟨a,xs,rfl,h1,h4,h2,h3⟩:=hv
   exact .inl ⟨xs,h1,by rw [emp h3.len]; exact h.ok⟩
 | ob a=>exact h.elim
 | exc a=>exact h.elim
def bU (m:ME):MT:=λρ=>(m ρ).bind gk
theorem eU (ha:DB X E a ma) (he:∀ whole,isTrue a X.env whole = (do let v ←whole; standAt a.pos; holding [v] (truthy v)):=by intro _; rfl):DT X E a (bU ma):=(HM ha he).imp λσ H Q ⟨B,P,ρ,r,o⟩=>
 ⟨B,P,ρ,r,o.bind λd H1 _ s1 o1 v hv=>MM hv o1⟩
def rn (a b:ME):ME:=λρ=>(a ρ).bind λx=>(fY x).bind λk=>if k = true then b ρ else .ok (.bl false)
variable {rest:List Expr}
theorem Hz (h:DE X E a ma):DE X E (.BoolOp op [a] pos) ma:=LZ h
theorem G6 (ha:DE X E a ma) (hb:DE X E (.BoolOp .And (b::rest) pos) mb):DE X E (.BoolOp .And (a::b::rest) pos) (rn ma mb):=(Nj ha hb).imp λσ H Q ⟨B,P,ρ,r,o⟩=>
 ⟨B,P,ρ,r,o.bind λd H1 _ s1 o1 v hv=>uT (K:=X.K) (Z:=ZU B P) (k:=λc H'=>if c = true then tD X.K X.mg E mb σ H' Q else Q (.bl false) H') (o1.bind λk H2 _ s2 o2=>by
   cases k with
   | true=>rw [if_pos rfl] at o2 ⊢; exact ⟨B,P,ρ,r.same (s1.trans s2),o2⟩
   | false=>rw [if_neg Bool.false_ne_true] at o2 ⊢; exact o2.ok _ rfl) hv⟩
def dH (a b:MT):MT:=λρ=>(a ρ).bind λk=>if k = true then b ρ else .ok false
def d5 (a b:MT):MT:=λρ=>(a ρ).bind λk=>if k = true then .ok true else b ρ
def cZ (a:MT):MT:=λρ=>(a ρ).bind λk=>.ok (!k)
abbrev DW (X:Cx) (E:XK) (e:Expr) (m:MT):Prop:=PW X e (Ei X.K X.mg E m)
theorem PW.imp (h:PW X e t) (hi:∀ σ H Q,t' σ H Q->t σ H Q):PW X e t':=λwh pins s σ H Q I q=>h wh pins s σ H Q I (hi σ H Q q)
theorem r0 (ha:DT X E a mt):DW X E (.BoolOp .And [a] pos) mt:=Iz ha
theorem jD (ha:DT X E a mt):DW X E (.BoolOp .Or [a] pos) mt:=LD ha
theorem w_and (ha:DT X E a mt) (hb:DW X E (.BoolOp .And (b::rest) pos) mu):DW X E (.BoolOp .And (a::b::rest) pos) (dH mt mu):=(Mr ha hb).imp λσ H Q ⟨B,P,ρ,r,o⟩=>
 ⟨B,P,ρ,r,o.bind λk H1 _ s1 o1=>by
   cases k with
   | true=>rw [if_pos rfl] at o1; exact ⟨B,P,ρ,r.same s1,o1⟩
   | false=>rw [if_neg Bool.false_ne_true] at o1; exact o1.ok⟩
theorem w_or (ha:DT X E a mt) (hb:DW X E (.BoolOp .Or (b::rest) pos) mu):DW X E (.BoolOp .Or (a::b::rest) pos) (d5 mt mu):=(Nu ha hb).imp λσ H Q ⟨B,P,ρ,r,o⟩=>
 ⟨B,P,ρ,r,o.bind λk H1 _ s1 o1=>by
   cases k with
   | true=>rw [if_pos rfl] at o1; exact o1.ok
   | false=>rw [if_neg Bool.false_ne_true] at o1; exact ⟨B,P,ρ,r.same s1,o1⟩⟩
theorem lg (h:DW X E e mt):DT X E e mt:=h.pt
theorem jA (ha:DT X E a mt):DT X E (.UnaryOp .Not a pos) (cZ mt):=(DZ ha).imp λσ H Q ⟨B,P,ρ,r,o⟩=>⟨B,P,ρ,r,o.bind λk H1 _ s1 o1=>o1.ok⟩
def By (t:MT) (a b:ME):ME:=λρ=>(t ρ).bind λk=>if k = true then a ρ else b ρ
theorem Nq (hc:DT X E c mt) (ha:DE X E a ma) (hb:DE X E b mb):DE X E (.IfExp c a b pos) (By mt ma mb):=(GG hc ha hb).imp λσ H Q ⟨B,P,ρ,r,o⟩=>
 ⟨B,P,ρ,r,o.bind λk H1 _ s1 o1=>by
   cases k with
   | true=>rw [if_pos rfl] at o1 ⊢; exact ⟨B,P,ρ,r.same s1,o1⟩
   | false=>rw [if_neg Bool.false_ne_true] at o1 ⊢; exact ⟨B,P,ρ,r.same s1,o1⟩⟩
theorem vc (hp:ng X.K (λx=>r [x]) f) (h:tD X.K X.mg E (m1 f ma) σ H Q):Ht r (sx (lE X.K X.mg E ma) yz) σ H Q:=by
 obtain ⟨B,P,ρ,r,o⟩:=h
 exact ⟨B,P,ρ,r,o.bind λd H1 _ s1 o1 v hv=>hp _ _ _ _ _ _ _ (r.same s1).old hv o1⟩
theorem cK {f:Dv->Rs Dv} {r:List V->Hp->VK->Prop} {id:String} {p:Pos} (hc:cq X (.builtin id) r) (hp:ng X.K (λx=>r [x]) f) (hm:X.mg x = none) (hv:bootBuiltins x = some (.builtin id)) (ha:DB X E a ma) (hst:isStar a = false:=by rfl) (hg:Gl X x:=by rfl) (hn:x≠"__name__":=by decide) (hdb:(x == ("__debug__":Str)) = false:=by decide):
  DE X E (.Call (.Name x p) [a] [] pos) (m1 f ma):=(gJ hc hg hm hv (d6 ha dm hst) hn hdb (b5 hst) (cu rfl)).imp λσ H Q h=>vc hp h
theorem Ci {f:Dv->Rs Dv} {r:List V->Hp->VK->Prop} {id:String} {p:Pos} (hc:cq X (.type id) r) (hp:ng X.K (λx=>r [x]) f) (hm:X.mg x = none) (hv:bootBuiltins x = some (.type id)) (ha:DB X E a ma) (hst:isStar a = false:=by rfl) (hg:Gl X x:=by rfl) (hn:x≠"__name__":=by decide) (hdb:(x == ("__debug__":Str)) = false:=by decide):
  DE X E (.Call (.Name x p) [a] [] pos) (m1 f ma):=(pC hc hg hm hv (d6 ha dm hst) hn hdb (b5 hst) (cu rfl)).imp λσ H Q h=>vc hp h
def ic (K:W.Frag) (mg:Str->Option Value) (f:DF):Sp:=λvs H Q E=>∃ Z τ ds,(∀ a,Z a->H a≠none)/\oi K Z τ H/\a7 K Z H ds vs/\Out mg H E (f τ ds) λd H'=>∀ v,Rp K Z H' d v->Q v H'
theorem call_of (h:tD X.K X.mg E (aI f ms) σ H Q):wF (ic X.K X.mg f) [] E (HY X.K X.mg E ms) σ H Q:=by
 obtain ⟨B,P,ρ,r,o⟩:=h
 refine ⟨B,P,ρ,r,o.bind λl H1 _ s1 o1 vs hv=>?_⟩
 show ic X.K X.mg f (vs++[]) H1 Q E
 rw [List.append_nil]
 exact ⟨ZU B P,ρ.t,l,(r.same s1).old,(r.same s1).st,hv,o1⟩
theorem bV (px:PX X E) (C:Callee X.prog X.w X.K X.mg X.base (dF X.prog X.w) x j ps (ic X.K X.mg f)) (hr:bI k X.A) (ha:DA X E (e::es) ms) (hj:j<=k:=by first | decide | omega) (hg:Gl X x:=by rfl) (hdb:(x == ("__debug__":Str)) = false:=by decide)
  (he:isStar e = false:=by rfl) (hpl:es.all (λe=>!isStar e) = true:=by rfl):DE X E (.Call (.Name x p) (e::es) [] pos) (aI f ms):=
 (p4 px C hr ha hj hg hdb (b5 he) (cu hpl)).imp λσ H Q h=>call_of h
def cb {α:Type}:Rs α->Rs α
 | .ex _=>.bad
 | r=>r
theorem mf (C:Callee X.prog X.w X.K X.mg X.base (dF X.prog X.w) x j ps (ic X.K X.mg f)) (hr:bI k X.A) (ha:DA X E (e::es) ms) (hj:j<=k:=by first | decide | omega) (hg:Gl X x:=by rfl) (hdb:(x == ("__debug__":Str)) = false:=by decide)
  (he:isStar e = false:=by rfl) (hpl:es.all (λe=>!isStar e) = true:=by rfl):DE X E (.Call (.Name x p) (e::es) [] pos) (aI (λτ l=>cb (f τ l)) ms):=by
 have C0:Callee X.prog X.w X.K X.mg X.base tO x j ps (ic X.K X.mg λτ l=>cb (f τ l)):=by
  refine (C.imp (sp':=ic X.K X.mg λτ l=>cb (f τ l)) λvs H Q E ⟨Z,τ,ds,h1,h0,h2,h3⟩=>⟨Z,τ,ds,h1,h0,h2,?_⟩).calm λvs H Q E ⟨Z,τ,ds,h1,h0,h2,h3⟩=>⟨Z,τ,ds,h1,h0,h2,?_⟩
  ·have h3:Out X.mg H E (cb (f τ ds)) _:=h3
   cases q:f τ ds with
   | ok d=>rw [q] at h3; exact h3
   | ex c=>rw [q] at h3; exact h3.elim
   | bad=>rw [q] at h3; exact h3.elim
  ·show Out _ _ _ (cb (f τ ds)) _
   have h3:Out X.mg H E (cb (f τ ds)) _:=h3
   cases q:f τ ds with
   | ok d=>rw [q] at h3; exact h3
   | ex c=>rw [q] at h3; exact h3.elim
   | bad=>rw [q] at h3; exact h3.elim
 exact (Kx C0 hr ha hj hg hdb (b5 he) (cu hpl)).imp λσ H Q ⟨B,P,ρ,r,o⟩=>⟨B,P,ρ,r,o.bind λl H1 _ s1 o1 vs hv=>by
  show ic X.K X.mg (λτ l=>cb (f τ l)) (vs++[]) H1 Q E0
  rw [List.append_nil]
  refine ⟨ZU B P,ρ.t,l,(r.same s1).old,(r.same s1).st,hv,?_⟩
  show Out _ _ _ (cb (f ρ.t l)) _
  replace o1:Out X.mg H1 E (cb (f ρ.t l)) _:=o1
  cases q:f ρ.t l with
  | ok d=>rw [q] at o1; exact o1
  | ex c=>rw [q] at o1; exact o1.elim
  | bad=>rw [q] at o1; exact o1.elim⟩
end
end L2
end
section
namespace L2
open PySem PySem.Spec PyProof.Rows
inductive Fl where
 | nx (ρ:Ev) | rt (d:Dv) | bk (ρ:Ev) | ct (ρ:Ev)
abbrev MS:=Ev->Rs Fl
structure gb (q:Bool) (P:Addr->Prop) (H:Hp) (P':Addr->Prop) (H':Hp):Prop where
 ext:Ext P H H'
 new:∀ a,P' a->P a\/H a = none
 qt:q = true->aK H H'
section
theorem Ext.back (e:Ext P H H1) (h:H1 a = none):H a = none:=by
 cases z:H a with
 | none=>rfl
 | some o=>exact absurd h (e.there a (by rw [z]; exact λz=>nomatch z))
theorem gb.trans (a:gb q P H P1 H1) (b:gb q P1 H1 P2 H2):gb q P H P2 H2:=
 ⟨a.ext.trans b.ext a.new,λx z=>(b.new x z).elim (a.new x) λz=>.inr (a.ext.back z),λhq=>(a.qt hq).trans (b.qt hq)⟩
theorem gb.same (s:aK H H1):gb q P H P H1:=⟨s.ext P,λ_ z=>.inl z,λ_=>s⟩
theorem gb.refl:gb q P H P H:=gb.same (aK.refl _)
end
def eM (K:W.Frag) (mg:Str->Option Value) (q:Bool) (B P:Addr->Prop) (H:Hp) (E:XK) (r:Rs Fl) (D:Ends):Prop:=match r with
 | .ok (.nx ρ)=>∀ P' σ' H',gb q P H P' H'->aM K B P' ρ σ' H'->D.nx σ' H'
 | .ok (.bk ρ)=>∀ P' σ' H',gb q P H P' H'->aM K B P' ρ σ' H'->D.bk σ' H'
 | .ok (.ct ρ)=>∀ P' σ' H',gb q P H P' H'->aM K B P' ρ σ' H'->D.ct σ' H'
 | .ok (.rt d)=>∀ v H',Ext P H H'->Rp K B H' d v->D.rt v H'
 | .ex c=>∀ H',Ext P H H'->(q = true->aK H H')->E (.ref (aR mg c)) none H'
 | .bad=>False
section
variable {K:W.Frag} {mg:Str->Option Value} {q:Bool} {B P P1:Addr->Prop} {H H1:Hp} {E:XK} {r:Rs Fl} {D:Ends}
theorem eM.mono (h:eM K mg q B P H E r D) (s:gb q P H P1 H1):eM K mg q B P1 H1 E r D:=by
 cases r with
 | ok f=>
   cases f with
   | nx ρ=>exact λP' σ' H' s' e=>h P' σ' H' (s.trans s') e
   | bk ρ=>exact λP' σ' H' s' e=>h P' σ' H' (s.trans s') e
   | ct ρ=>exact λP' σ' H' s' e=>h P' σ' H' (s.trans s') e
   | rt d=>exact λv H' e r=>h v H' (s.ext.trans e s.new) r
 | ex c=>exact λH' e hq=>h H' (s.ext.trans e s.new) λz=>(s.qt z).trans (hq z)
 | bad=>exact h.elim
theorem eM.bind {α:Type} {x:Rs α} {f:α->Rs Fl} {k:α->Hp->Prop} (h:eM K mg q B P H E (x.bind f) D) (g:∀ a H1,x = .ok a->aK H H1->eM K mg q B P H1 E (f a) D->k a H1):Out mg H E x k:=by
 cases x with
 | ok a=>exact λH' s=>g a H' rfl s (eM.mono (r:=f a) h (gb.same s))
 | ex c=>exact λH' s=>h H' (s.ext P) λ_=>s
 | bad=>exact h.elim
end
def tS (K:W.Frag) (mg:Str->Option Value) (E:XK) (q:Bool) (m:MS):TS:=λD σ H=>∃ B P ρ,aM K B P ρ σ H/\eM K mg q B P H E (m ρ) D
abbrev DS (X:Cx) (E:XK) (q:Bool) (st:Stmt) (m:MS):Prop:=PS X st (tS X.K X.mg E q m)
abbrev mH (X:Cx) (E:XK) (q:Bool) (st:List Stmt) (m:MS):Prop:=ia X st (tS X.K X.mg E q m)
def aL:MS:=λρ=>.ok (.nx ρ)
def xu (b:MS):Fl->Rs Fl
 | .nx ρ'=>b ρ'
 | f=>.ok f
def aT (a b:MS):MS:=λρ=>(a ρ).bind (xu b)
def bC (i:Nat) (e:ME):MS:=λρ=>(e ρ).bind λd=>.ok (.nx (ρ.set i (some (.v d))))
def jU (i:Nat) (e:MA):MS:=λρ=>(e ρ).bind λl=>.ok (.nx (ρ.set i (some (.m l))))
def eW (e:ME):MS:=λρ=>(e ρ).bind λ_=>.ok (.nx ρ)
def bP (t:MT) (a b:MS):MS:=λρ=>(t ρ).bind λk=>if k = true then a ρ else b ρ
def aQ (e:ME):MS:=λρ=>(e ρ).bind λd=>.ok (.rt d)
def mR (i:Nat):ME:=λρ=>match ρ[i]? with
 | some (some (.v d))=>.ok d
 | some (some (.m l))=>.ok (.lst l)
 | _=>.bad
def ny (i:Nat):MS:=λρ=>(mR i ρ).bind λd=>.ok (.rt d)
def ju (i:Nat) (e:ME):MS:=λρ=>match ρ[i]? with
 | some (some (.m l))=>(e ρ).bind λd=>if l.length < sizeLine then .ok (.nx (ρ.set i (some (.m (l++[d]))))) else .bad
 | _=>.bad
def GN (i:Nat) (m:MS):MS:=λρ=>match ρ[i]? with
 | some (some (.m l))=>m (ρ.set i (some (.v (.lst l))))
 | _=>m ρ
def P6 (c:Str) (a:MA):MS:=λρ=>(a ρ).bind λl=>match l with
 | [_]=>.ex c
 | _=>.bad
section
variable {X:Cx} {E:XK} {q:Bool} {a b c e:Expr} {es:List Expr} {ma mb mc m:ME} {ms:MA} {mt mu:MT} {pos p2:Pos} {x:Str} {st:Stmt} {rest body orelse:List Stmt} {ss su:MS}
theorem ia.imp (h:ia X l t) (hi:∀ D σ H,t' D σ H->t D σ H):ia X l t':=λpins s σ H D I q=>h pins s σ H D I (hi D σ H q)
theorem bZ:mH X E q [] aL:=JR.imp λD σ H ⟨B,P,ρ,r,o⟩=>o P σ H gb.refl r
theorem a9 (h1:DS X E q st ss) (h2:mH X E q rest su):mH X E q (st::rest) (aT ss su):=(yb h1 h2).imp λD σ H ⟨B,P,ρ,r,o⟩=>by
 refine ⟨B,P,ρ,r,?_⟩
 unfold aT at o
 cases z:ss ρ with
 | ok f=>
   rw [z] at o
   cases f with
   | nx ρ'=>exact λP' σ' H' s' e=>⟨B,P',ρ',e,eM.mono (r:=su ρ') o s'⟩
   | bk ρ'=>exact o
   | ct ρ'=>exact o
   | rt d=>exact o
 | ex c=>rw [z] at o; exact o
 | bad=>rw [z] at o; exact o.elim
theorem aJ (h1:DS X E q st ss):mH X E q [st] ss:=uA h1
theorem Kp {i:Nat} {D:Ends} {σ:St} {H:Hp} (h:tS X.K X.mg E q (bC i m) D σ H):uQ (tD X.K X.mg E m) (la i) D σ H:=by
 obtain ⟨B,P,ρ,r,o⟩:=h
 exact ⟨B,P,ρ,r,o.bind λd H1 _ s1 o1 v hv=>o1 P _ H1 gb.refl ((r.same s1).set i hv)⟩
theorem cz (hN:X.N.Nodup) (he:DE X E e m) (hi:X.N[i]? = some x:=by rfl) (hx:Loc X.env.scope x:=by first | exact Or.inl rfl | exact Or.inr rfl) (hs:swapsWith e (some (.Name x pos')) pos.line X.env = pure false:=by rfl) (han:X.dZ = none\/i∈X.iW:=by first | exact .inl rfl | exact .inr (by decide) | assumption)
  (hf:X.fn x = true\/X.env.scope.names.lookup x = some .local:=by first | exact .inl rfl | exact .inr rfl | assumption):DS X E q (.Assign [.Name x pos'] e pos) (bC i m):=(L2.BR hN he hi hx hs han hf).imp λD σ H h=>Kp h
theorem Ed (h:tS X.K X.mg E q (jU i ms) D σ H):uQ (Lp X.K X.mg E ms) (la i) D σ H:=by
 obtain ⟨B,P,ρ,r,o⟩:=h
 refine ⟨B,P,ρ,r,?_⟩
 unfold jU at o
 cases z:ms ρ with
 | ok l=>
   rw [z] at o
   intro H' s p xs hp hx hl hr
   exact o _ _ H' ⟨s.ext P,λa z=>z.imp id λz=>by rw [z]; exact hp,λ_=>s⟩ (r.Kt i s hp hx hl hr)
 | ex c=>rw [z] at o; exact λH' s=>o H' (s.ext P) λ_=>s
 | bad=>rw [z] at o; exact o.elim
theorem HA (hN:X.N.Nodup) (he:DN X E e ms) (hi:X.N[i]? = some x:=by rfl) (hx:Loc X.env.scope x:=by first | exact Or.inl rfl | exact Or.inr rfl) (hs:swapsWith e (some (.Name x pos')) pos.line X.env = pure false:=by rfl) (han:X.dZ = none\/i∈X.iW:=by first | exact .inl rfl | exact .inr (by decide) | assumption)
  (hf:X.fn x = true\/X.env.scope.names.lookup x = some .local:=by first | exact .inl rfl | exact .inr rfl | assumption):DS X E q (.Assign [.Name x pos'] e pos) (jU i ms):=(L2.BR hN he hi hx hs han hf).imp λD σ H h=>Ed h
theorem gA (he:DE X E e m) (hs:swapsWith e none pos.line X.env = pure false:=by rfl):DS X E q (.Expr e pos) (eW m):=(mi he hs).imp λD σ H ⟨B,P,ρ,r,o⟩=>
 ⟨B,P,ρ,r,o.bind λd H1 _ s1 o1 v hv=>o1 P _ H1 gb.refl (r.same s1)⟩
theorem bz (he:DE X E e m):DS X E q (.Return (some e) pos) (aQ m):=(xC he).imp λD σ H ⟨B,P,ρ,r,o⟩=>
 ⟨B,P,ρ,r,o.bind λd H1 _ s1 o1 v hv=>o1 v H1 Ext.refl (hv.weak λa z=>.inl (.inl z))⟩
theorem oA (i:Nat) (hN:X.N[i]? = some x:=by rfl) (hv:vy X.env.scope x:=by first | exact Or.inl rfl | exact Or.inr (Or.inl rfl) | exact Or.inr (Or.inr rfl)) (hd:(x == ("__debug__":Str)) = false:=by decide)
  (hcd:(x == ("__classdict__":Str)) = false:=by decide):DS X E q (.Return (some (.Name x p2)) pos) (ny i):=(xC (qv i hN hv hd hcd)).imp λD σ H ⟨B,P,ρ,r,o⟩=>by
 unfold ny mR at o
 split at o
 ·rename_i d h
  obtain ⟨v,h1,h2⟩:=r.vs i d h
  show jo i σ H D.rt
  unfold jo
  rw [h1]
  exact o v H Ext.refl (h2.weak λa z=>.inl (.inl z))
 ·rename_i l h
  obtain ⟨p,xs,h1,h2,h3,h4,h5,h6⟩:=r.ms i l h
  show jo i σ H D.rt
  unfold jo
  rw [h1]
  exact o _ H Ext.refl ⟨p,xs,rfl,.inl ⟨h4,h3⟩,h5,h6.weak λa z=>.inl (.inl z)⟩
 ·exact o.elim
theorem cQ (hc:DT X E c mt) (ha:mH X E q body ss) (hb:mH X E q orelse su):DS X E q (.If c body orelse pos) (bP mt ss su):=(CI hc ha hb).imp λD σ H ⟨B,P,ρ,r,o⟩=>
 ⟨B,P,ρ,r,o.bind λk H1 _ s1 o1=>by
   cases k with
   | true=>rw [if_pos rfl] at o1 ⊢; exact ⟨B,P,ρ,r.same s1,o1⟩
   | false=>rw [if_neg Bool.false_ne_true] at o1 ⊢; exact ⟨B,P,ρ,r.same s1,o1⟩⟩
theorem DQ {K:W.Frag} {B P:Addr->Prop} {ρ:Ev} {σ:St} {H:Hp} (r:aM K B P ρ σ H) {i:Nat} {l:List Dv} (h:ρ[i]? = some (some (.m l))):∃ p xs,σ[i]? = some (some (.ref p))/\H p = some (.lst xs)/\a7 K (ZU B P) H l xs:=by
 obtain ⟨p,xs,h1,h2,h3,h4,h5,h6⟩:=r.ms i l h
 exact ⟨p,xs,h1,h4,h6⟩
theorem Cf {i:Nat} {apos cpos np:Pos} (he:DE X E e m) (hst:isStar e = false:=by rfl) (hN:X.N[i]? = some x:=by rfl) (hv:vy X.env.scope x:=by first | exact Or.inl rfl | exact Or.inr (Or.inl rfl) | exact Or.inr (Or.inr rfl)) (hd:(x == ("__debug__":Str)) = false:=by decide)
  (hcd:(x == ("__classdict__":Str)) = false:=by decide)
  (hbase:attributeBase (.Name x np) "append" X.env (eval (.Name x np) X.env) = eval (.Name x np) X.env:=by rfl)
  (hfew:((backTo cpos (starEach [e] X.env)).all (λx=>!x.1) && (backToKw cpos (keywordEach [] X.env)).all (λx=>x.1.isSome)
   && decide (([e]:List Expr).length+ ([]:List Keyword).length+ (if ([]:List Keyword).isEmpty then 0 else 1) < 30)) = true:=by rfl)
  (hline:(apos.endLine == cpos.line) = true:=by rfl)
  (hs:swapsWith (.Call (.Attribute (.Name x np) "append" apos) [e] [] cpos) none pos.line X.env = pure false:=by rfl):
  DS X E false (.Expr (.Call (.Attribute (.Name x np) "append" apos) [e] [] cpos) pos) (ju i m):=
 (mi (LJ X.K PySem.F.plainAttrs_list PySem.F.slot_list_append PySem.F.type_list_append oR (qv i hN hv hd hcd) (d6 he dm hst) rfl hbase hfew hline (b5 hst) (cu rfl)) hs).imp λD σ H ⟨B,P,ρ,r,o⟩=>by
  unfold ju at o
  split at o
  ·rename_i l h
   obtain ⟨p,xs,h1,h4,h6⟩:=DQ r h
   unfold BJ Lc jo
   dsimp only
   rw [h1]
   refine ⟨.inl ⟨rfl,xs,cR.of h4⟩,B,P,ρ,r,o.bind λd H1 _ s1 o1 v hv=>?_⟩
   have r1:=r.same s1
   split at o1
   ·rename_i hlt
    have hlen:=h6.len
    obtain ⟨r2,ex⟩:=r1.change (xs':=xs++[v]) (l':=l++[d]) h h1 (s1 _ _ h4) (by rw [List.length_append]; exact hlt) ((h6.same s1).app (.one hv))
    exact ⟨p,xs,v,rfl,rfl,s1 _ _ h4,by rw [hlen]; exact hlt,o1 P σ _ ⟨ex,λ_ z=>.inl z,λz=>nomatch z⟩ r2⟩
   ·exact o1.elim
  ·exact o.elim
theorem NW (i:Nat) (h:mH X E q rest ss):mH X E q rest (GN i ss):=ia.imp h λD σ H ⟨B,P,ρ,r,o⟩=>by
 unfold GN at o
 split at o
 ·rename_i l hl
  obtain ⟨p,r'⟩:=r.freeze hl
  exact ⟨B,_,_,r',o.mono ⟨Ext.refl,λa z=>.inl z.1,λ_=>aK.refl _⟩⟩
 ·exact ⟨B,P,ρ,r,o⟩
def tG (K:W.Frag) (m:Dv->Ev->Rs Ev):TG:=λv σ H Q=>∃ B P ρ d ρ',aM K B P ρ σ H/\Rp K (ZU B P) H d v/\m d ρ = .ok ρ'/\∀ σ',aM K B P ρ' σ' H->Q σ' H
def PD (K:W.Frag) (m:List Dv->Ev->Rs Ev):vf:=λvs σ H Q=>∃ B P ρ ds ρ',aM K B P ρ σ H/\a7 K (ZU B P) H ds vs/\m ds ρ = .ok ρ'/\∀ σ',aM K B P ρ' σ' H->Q σ' H
abbrev DG (X:Cx) (e:Expr) (m:Dv->Ev->Rs Ev):Prop:=PG X e (tG X.K m)
abbrev Hb (X:Cx) (es:List Expr) (m:List Dv->Ev->Rs Ev):Prop:=sD X es (PD X.K m)
def gN (i:Nat):Dv->Ev->Rs Ev:=λd ρ=>.ok (ρ.set i (some (.v d)))
def j9:List Dv->Ev->Rs Ev:=λl ρ=>match l with
 | []=>.ok ρ
 | _=>.bad
def dJ (g:Dv->Ev->Rs Ev) (r:List Dv->Ev->Rs Ev):List Dv->Ev->Rs Ev:=λl ρ=>match l with
 | d::l=>(g d ρ).bind λρ'=>r l ρ'
 | []=>.bad
def gT (n:Nat) (r:List Dv->Ev->Rs Ev):Dv->Ev->Rs Ev:=λd ρ=>match d with
 | .tup l=>if l.length = n then r l ρ else .bad
 | _=>.bad
theorem sD.imp (h:sD X es t) (hi:∀ v σ H Q,t' v σ H Q->t v σ H Q):sD X es t':=λpins s σ H v u Q I r q=>h pins s σ H v u Q I r (hi _ _ _ _ q)
theorem ck (hN:X.N.Nodup) (hi:X.N[i]? = some x:=by rfl) (hx:Loc X.env.scope x:=by first | exact Or.inl rfl | exact Or.inr rfl) (han:X.dZ = none\/i∈X.iW:=by first | exact .inl rfl | exact .inr (by decide) | assumption) (hf:X.fn x = true\/X.env.scope.names.lookup x = some .local:=by first | exact .inl rfl | exact .inr rfl | assumption):
  DG X (.Name x pos) (gN i):=(Le hN hi hx han hf).imp λv σ H Q ⟨B,P,ρ,d,ρ',r,hv,h,k⟩=>by
 cases h
 exact k _ (r.set i hv)
theorem sP:Hb X [] j9:=IZ.imp λvs σ H Q ⟨B,P,ρ,ds,ρ',r,hv,h,k⟩=>by
 cases ds with
 | nil=>cases h; exact ⟨hv,k σ r⟩
 | cons _ _=>cases h
theorem iE (h1:DG X e g) (h2:Hb X es gr) (hs:(assignEach (e::es) X.env).map (·.2) = assign e X.env::(assignEach es X.env).map (·.2):=by rfl):Hb X (e::es) (dJ g gr):=(Fp h1 h2 hs).imp λvs σ H Q ⟨B,P,ρ,ds,ρ',r,hv,h,k⟩=>by
 cases ds with
 | nil=>cases h
 | cons d l=>
   obtain ⟨v,vr,rfl,hv1,hv2⟩:=hv
   unfold dJ at h
   dsimp only at h
   cases z:g d ρ with
   | ok ρ1=>
     rw [z] at h
     exact ⟨v,vr,rfl,B,P,ρ,d,ρ1,r,hv1,z,λσ1 r1=>⟨B,P,ρ1,l,ρ',r1,hv2,h,k⟩⟩
   | ex c=>rw [z] at h; cases h
   | bad=>rw [z] at h; cases h
theorem sy (h:Hb X es gr) (hc:X.calm = true:=by rfl) (hn:(assignEach es X.env).length = n:=by rfl) (hst:(assignEach es X.env).findIdx? (·.1) = none:=by rfl):DG X (.Tuple es k pos) (gT n gr):=(NQ X.K h hc hn hst).imp λv σ H Q ⟨B,P,ρ,d,ρ',r,hv,h,k⟩=>by
 cases d with
 | tup l=>
   obtain ⟨a,xs,rfl,h1,h2,h3⟩:=hv
   unfold gT at h
   dsimp only at h
   split at h
   ·rename_i hl
    exact ⟨xs,h1,by rw [h3.len]; exact hl,B,P,ρ,l,ρ',r,h3,h,k⟩
   ·cases h
 | _=>cases h
end
end L2
end
section
namespace L2
open PySem PySem.Spec PyProof.Rows
def JW (K:W.Frag) (Z:Addr->Prop) (q:Bool) (J:It) (H0:Hp) (items:List Dv):Prop:=∀ (Zi:Addr->Prop) (i:Nat) (H:Hp),(∀ a,Zi a->Z a\/H0 a = none)->Ext Z H0 H->(q = true->aK H0 H)->
 (∀ d,items[i]? = some d->J.go i H/\∀ v H',J.AR i H v H'->aK H H'/\Rp K Zi H' d v)/\(items.length<=i->J.stop i H)
def Ih (K:W.Frag) (mg:Str->Option Value) (E:XK) (q:Bool) (m:MA):TI:=λσ H R=>∃ B P ρ,aM K B P ρ σ H/\Out mg H E (m ρ) λitems H1=>∀ J,JW K (ZU B P) q J H1 items->items.length<=sizeLine->R J H1
abbrev DI (X:Cx) (E:XK) (q:Bool) (tg e:Expr) (m:MA):Prop:=PI X tg e (Ih X.K X.mg E q m)
theorem lr {K:W.Frag} {Z:Addr->Prop} {q:Bool} {J:It} {H0:Hp} {items:List Dv} {xs:List V} {Pj:Hp->Prop} (jl:t8 J Pj xs) (hP:∀ H,Ext Z H0 H->(q = true->aK H0 H)->Pj H) (hr:a7 K Z H0 items xs):JW K Z q J H0 items:=by
 intro Zi i H hz hx hq
 have j:=jl i H (hP H hx hq)
 refine ⟨λd e=>?_,λhl=>j.2 (by rw [hr.len]; exact hl)⟩
 obtain ⟨x,h1,h2⟩:=hr.get e
 obtain ⟨go,yl⟩:=j.1 x h1
 refine ⟨go,λv H' y=>?_⟩
 obtain ⟨e1,e2⟩:=yl v H' y
 subst e1 e2
 refine ⟨aK.refl _,?_⟩
 have h3:Rp K (λa=>Z a\/Zi a) H0 d v:=h2.weak λa z=>z.elim .inl (hz a)
 have h4:Rp K (λa=>Z a\/Zi a) H' d v:=h3.mono hx λa z=>.inl z
 exact h4.weak λa z=>.inl (.inr z)
def mj:Dv->Rs (List Dv)
 | .str z=>.ok ((Cd z).map λc=>.str (ao [c]))
 | .lst l=>.ok l
 | .tup l=>.ok l
 | _=>.bad
def cX (m:ME):MA:=λρ=>(m ρ).bind mj
def eh (lo:Int) (n:Nat):List Dv:=(List.range n).map λi=>.int (lo+ (i:Nat))
def j7:List Dv->Rs (List Dv)
 | [.int j]=>if j<=sizeLine/\-(2 ^ 62)<=j then .ok (eh 0 j.toNat) else .bad
 | _=>.bad
def ua:List Dv->Rs (List Dv)
 | [.int i,.int j]=>if (j - i)<=sizeLine/\-(2 ^ 62)<=i/\i < 2 ^ 62/\-(2 ^ 62)<=j/\j < 2 ^ 62 then .ok (eh i (j - i).toNat) else .bad
 | _=>.bad
def jI (m:MA):MA:=λρ=>(m ρ).bind j7
def Hx (m:MA):MA:=λρ=>(m ρ).bind ua
theorem xU {K:W.Frag} {Z:Addr->Prop} {H:Hp} (lo:Int):∀ (l:List Nat),a7 K Z H (l.map λi=>.int (lo+ (i:Nat))) (l.map λi=>V.int (lo+ (i:Nat)))
 | []=>rfl
 | _::r=>⟨_,_,rfl,rfl,xU lo r⟩
theorem rD {K:W.Frag} {Z:Addr->Prop} {H:Hp}:∀ (l:List Nat),a7 K Z H (l.map λc=>.str (ao [c])) (l.map sgn)
 | []=>rfl
 | _::r=>⟨_,_,rfl,⟨rfl,by show 1<=sizeLine; decide⟩,rD r⟩
section
variable {X:Cx} {E:XK} {q:Bool} {tg a b c e:Expr} {es:List Expr} {ma mb mc m:ME} {ms:MA} {mt mu:MT} {pos p2 p:Pos} {x:Str} {st:Stmt} {rest body orelse:List Stmt} {ss su:MS}
theorem PI.imp (h:PI X tg e w) (hi:∀ σ H R,w' σ H R->w σ H R):PI X tg e w':=λpins s σ H R I q=>h pins s σ H R I (hi σ H R q)
theorem Pm:(sizeLine:Int) < 2 ^ 62:=by rw [sizeLine_eq]; decide
theorem qb (hm:X.mg "range" = none) (ha:DA X E [a] ms) (hst:isStar a = false:=by rfl) (hg:Gl X "range":=by rfl):DI X E q tg (.Call (.Name "range" p) [a] [] pos) (jI ms):=
 (GJ hm ha hg (b5 hst)).imp λσ H R ⟨B,P,ρ,r,o⟩=>⟨B,P,ρ,r,o.bind λl H1 _ s1 o1 vs hv=>by
  unfold j7 at o1
  split at o1
  ·rename_i j
   split at o1
   ·rename_i hj
    obtain ⟨v,vr,rfl,hv1,hv2⟩:=hv
    rw [show vr = [] from hv2,show v = _ from hv1]
    have:=Pm
    refine ⟨⟨hj.2,by omega⟩,o1.ok _ (lr yw (λ_ _ _=>trivial) (xU 0 _)) ?_⟩
    rw [eh,List.length_map,List.length_range]
    omega
   ·exact o1.elim
  ·exact o1.elim⟩
theorem J8 (hm:X.mg "range" = none) (ha:DA X E [a,b] ms) (hst:isStar a = false:=by rfl) (hst2:isStar b = false:=by rfl) (hg:Gl X "range":=by rfl):DI X E q tg (.Call (.Name "range" p) [a,b] [] pos) (Hx ms):=
 (Fm hm ha hg (by rw [b5 hst,b5 hst2]; rfl) (b5 hst2)).imp λσ H R ⟨B,P,ρ,r,o⟩=>⟨B,P,ρ,r,o.bind λl H1 _ s1 o1 vs hv=>by
  unfold ua at o1
  split at o1
  ·rename_i i j
   split at o1
   ·rename_i hj
    obtain ⟨v,vr,rfl,hv1,w,wr,rfl,hv2,hv3⟩:=hv
    rw [show wr = [] from hv3,show v = _ from hv1,show w = _ from hv2]
    refine ⟨⟨hj.2.1,hj.2.2.1,hj.2.2.2.1,hj.2.2.2.2⟩,o1.ok _ (lr yw (λ_ _ _=>trivial) (xU _ _)) ?_⟩
    rw [eh,List.length_map,List.length_range]
    omega
   ·exact o1.elim
  ·exact o1.elim⟩
theorem p9 (he:DE X E e m):DI X E q tg e (cX m):=(Er he).imp λσ H R ⟨B,P,ρ,r,o⟩=>⟨B,P,ρ,r,o.bind λd H1 _ s1 o1 v hv=>by
 cases d with
 | str z=>
   rw [show v = _ from hv.1]
   refine o1.ok _ (lr D6 (λ_ _ _=>trivial) (rD _)) ?_
   rw [List.length_map]
   exact hv.2
 | tup l=>
   obtain ⟨a,xs,rfl,h1,h2,h3⟩:=hv
   exact .inr ⟨xs,h1,o1.ok _ (lr DC (λH' ex _=>ex.Ib h1) h3) h2⟩
 | lst l=>
   obtain ⟨a,xs,rfl,h1,h2,h3⟩:=hv
   exact .inl ⟨xs,h1.rd.sq,o1.ok _ (lr AU (λH' ex _=>(ex.vT (λ_ z=>z) h1).rd.sq) h3) h2⟩
 | _=>exact o1.elim⟩
theorem ir (he:DB X E e m):DI X E true tg e (cX m):=(Er he).imp λσ H R ⟨B,P,ρ,r,o⟩=>⟨B,P,ρ,r,o.bind λd H1 _ s1 o1 v hv=>by
 cases d with
 | str z=>
   rw [show v = _ from hv.1]
   refine o1.ok _ (lr D6 (λ_ _ _=>trivial) (rD _)) ?_
   rw [List.length_map]
   exact hv.2
 | tup l=>
   obtain ⟨a,xs,rfl,h1,h2,h3⟩:=hv
   exact .inr ⟨xs,h1,o1.ok _ (lr DC (λH' ex _=>ex.Ib h1) h3) h2⟩
 | lst l=>
   obtain ⟨a,xs,rfl,h1,h2,h3⟩:=hv
   exact .inl ⟨xs,h1.sq,o1.ok _ (lr AU (λH' ex hq=>((hq rfl).rd h1).sq) h3) h2⟩
 | _=>exact o1.elim⟩
def nE (k:Ev->Rs Fl):Fl->Rs Fl
 | .nx ρ'=>k ρ'
 | .ct ρ'=>k ρ'
 | .bk ρ'=>.ok (.nx ρ')
 | .rt d=>.ok (.rt d)
def eu (g:Dv->Ev->Rs Ev) (b:MS):List Dv->Ev->Rs Fl
 | [],ρ=>.ok (.nx ρ)
 | d::r,ρ=>(cb (g d ρ)).bind λρ1=>(b ρ1).bind (nE (eu g b r))
def nV (it:MA) (g:Dv->Ev->Rs Ev) (b:MS):MS:=λρ=>(it ρ).bind λl=>eu g b l ρ
theorem wQ (hp:PassesOwn (model X.prog X.w) X.A X.env X.xe) (hi:DI X E false tg e ms) (hg:DG X tg g) (hb:mH X E false body ss) (hc:X.calm = true:=by rfl)
  (hs:∀ x,foldedSetIterable e X.env x = pure x:=by intro _; rfl):DS X E false (.For tg e body [] pos) (nV ms g ss):=(Fc hp hc hi hg hb hs).imp λD σ H ⟨B,P,ρ,r,o⟩=>
 ⟨B,P,ρ,r,o.bind λitems H1 _ s1 o1 J jw hlen=>by
   refine ⟨λi m σ2 H2=>m = items.length - i/\i<=items.length/\∃ P2 ρ2,aM X.K B P2 ρ2 σ2 H2/\gb false P H1 P2 H2/\eM X.K X.mg false B P2 H2 E (eu g ss (items.drop i) ρ2) D,⟨items.length,by simp,Nat.zero_le _,P,ρ,r.same s1,gb.refl,by rw [List.drop_zero]; exact o1⟩,?_⟩
   rintro i m σ2 H2 ⟨rfl,hi,P2,ρ2,r2,st2,o2⟩
   have j:=jw (ZU B P2) i H2 (λa z=>by
    rcases z with z | z
    ·exact .inl (.inl z)
    ·exact (st2.new a z).imp .inr id) (st2.ext.weak λa z=>.inr z) nofun
   by_cases hlt:i < items.length
   ·have e:items.drop i = items[i]::items.drop (i+1):=List.drop_eq_getElem_cons hlt
    rw [e] at o2
    obtain ⟨go,yl⟩:=j.1 items[i] (by simp [hlt])
    refine .inr ⟨go,λσ' H'=>∃ P3 ρ3,aM X.K B P3 ρ3 σ' H'/\gb false P H1 P3 H'/\eM X.K X.mg false B P3 H' E (eu g ss (items.drop (i+1)) ρ3) D,λσ' H' h=>⟨items.length - (i+1),by omega,rfl,hlt,h⟩,λv H' y=>?_⟩
    obtain ⟨sm,hv⟩:=yl v H' y
    have r3:=r2.same sm
    have st3:gb false P H1 P2 H':=st2.trans (gb.same sm)
    replace o2:eM X.K X.mg false B P2 H' E (eu g ss (items[i]::items.drop (i+1)) ρ2) D:=eM.mono o2 (gb.same sm)
    unfold eu at o2
    cases z:g items[i] ρ2 with
    | ok ρ3=>
      rw [z] at o2
      refine ⟨B,P2,ρ2,items[i],ρ3,r3,hv,z,λσ3 r4=>⟨B,P2,ρ3,r4,?_⟩⟩
      replace o2:eM X.K X.mg false B P2 H' E ((ss ρ3).bind (nE (eu g ss (items.drop (i+1))))) D:=o2
      cases z2:ss ρ3 with
      | ok f=>
        rw [z2] at o2
        cases f with
        | nx ρ'=>exact λP4 σ4 H4 st4 r5=>⟨P4,ρ',r5,st3.trans st4,eM.mono (r:=eu g ss (items.drop (i+1)) ρ') o2 st4⟩
        | ct ρ'=>exact λP4 σ4 H4 st4 r5=>⟨P4,ρ',r5,st3.trans st4,eM.mono (r:=eu g ss (items.drop (i+1)) ρ') o2 st4⟩
        | bk ρ'=>exact o2
        | rt d=>exact o2
      | ex c=>rw [z2] at o2; exact o2
      | bad=>rw [z2] at o2; exact o2.elim
    | ex c=>rw [z] at o2; exact o2.elim
    | bad=>rw [z] at o2; exact o2.elim
   ·have e:items.drop i = []:=List.drop_eq_nil_of_le (by omega)
    rw [e] at o2
    exact .inl ⟨j.2 (by omega),o2 P2 σ2 H2 gb.refl r2⟩⟩
def fK (t:MT) (b:MS):Nat->Ev->Rs Fl
 | 0,_=>.bad
 | n+1,ρ=>(t ρ).bind λk=>if k = true then (b ρ).bind (nE (fK t b n)) else .ok (.nx ρ)
theorem Kb (n:Nat) (hp:PassesOwn (model X.prog X.w) X.A X.env X.xe) (hc:DT X E c mt) (hb:mH X E false body ss):DS X E false (.While c body [] pos) (fK mt ss n):=(GC hp hc hb).imp λD σ H ⟨B,P,ρ,r,o⟩=>by
 refine ⟨λm σ2 H2=>∃ P2 ρ2,aM X.K B P2 ρ2 σ2 H2/\eM X.K X.mg false B P2 H2 E (fK mt ss m ρ2) D,⟨n,P,ρ,r,o⟩,?_⟩
 rintro m σ2 H2 ⟨P2,ρ2,r2,o2⟩
 cases m with
 | zero=>exact o2.elim
 | succ m=>
   refine ⟨B,P2,ρ2,r2,o2.bind λk H3 _ s3 o3=>?_⟩
   cases k with
   | false=>rw [if_neg Bool.false_ne_true] at o3 ⊢; exact o3 P2 σ2 H3 gb.refl (r2.same s3)
   | true=>
     rw [if_pos rfl] at o3 ⊢
     refine ⟨λσ' H'=>∃ P2 ρ2,aM X.K B P2 ρ2 σ' H'/\eM X.K X.mg false B P2 H' E (fK mt ss m ρ2) D,λσ' H' h=>⟨m,Nat.lt_succ_self _,h⟩,B,P2,ρ2,r2.same s3,?_⟩
     cases z2:ss ρ2 with
     | ok f=>
       rw [z2] at o3
       cases f with
       | nx ρ'=>exact λP4 σ4 H4 st4 r5=>⟨P4,ρ',r5,eM.mono (r:=fK mt ss m ρ') o3 st4⟩
       | ct ρ'=>exact λP4 σ4 H4 st4 r5=>⟨P4,ρ',r5,eM.mono (r:=fK mt ss m ρ') o3 st4⟩
       | bk ρ'=>exact o3
       | rt d=>exact o3
     | ex c=>rw [z2] at o3; exact o3
     | bad=>rw [z2] at o3; exact o3.elim
def FI:Option Cell->Option Cell
 | some (.m l)=>some (.b l)
 | c=>c
def rO (ρ:Ev) (nt:Nat) (fr:List Nat):Ev:=⟨List.replicate nt none++fr.map λi=>FI ((ρ[i]?).getD none),ρ.t⟩
def cE (g:Dv->Ev->Rs Ev) (t:MT) (e:ME):List Dv->Ev->Rs (List Dv)
 | [],_=>.ok []
 | d::r,ρ=>(g d ρ).bind λρ1=>(t ρ1).bind λk=>if k = true then (e ρ1).bind λy=>(cE g t e r ρ1).bind λl=>.ok (y::l) else cE g t e r ρ1
def cH (it:MA) (nt:Nat) (fr:List Nat) (g:Dv->Ev->Rs Ev) (t:MT) (e:ME):MA:=λρ=>(it ρ).bind λl=>cb (cE g t e l (rO ρ nt fr))
def dC:MT:=λ_=>.ok true
theorem kX {ρ:Ev} {nt:Nat} {fr:List Nat} {i:Nat} {c:Cell} (h:(rO ρ nt fr)[i]? = some (some c)):∃ j,fr[i - nt]? = some j/\nt<=i/\FI ((ρ[j]?).getD none) = some c:=by
 replace h:(List.replicate nt none++fr.map λi=>FI ((ρ[i]?).getD none))[i]? = some (some c):=h
 by_cases hlt:i < nt
 ·rw [List.getElem?_append_left (by simpa using hlt),List.getElem?_replicate] at h
  simp [hlt] at h
 ·rw [List.getElem?_append_right (by simpa using Nat.le_of_not_lt hlt),List.length_replicate,List.getElem?_map] at h
  cases z:fr[i - nt]? with
  | none=>rw [z] at h; cases h
  | some j=>rw [z] at h; exact ⟨j,rfl,Nat.le_of_not_lt hlt,Option.some.inj h⟩
theorem kG (h:fr[i - nt]? = some j) (hn:nt<=i) (hj:σ[j]? = some v):(lU σ nt fr)[i]? = some v:=by
 unfold lU
 rw [List.getElem?_append_right (by simpa using hn),List.length_replicate,List.getElem?_map,h]
 simp [hj]
theorem aM.comp {K:W.Frag} {B P:Addr->Prop} {ρ:Ev} {σ:St} {H:Hp} (r:aM K B P ρ σ H) (nt:Nat) (fr:List Nat) {D:Addr} (hD:H D = none):
  aM K (λa=>ZU B P a\/a = D) (λa=>a = D) (rO ρ nt fr) (lU σ nt fr) (upd H D (.lst [])):=by
 have s:aK H (upd H D (.lst [])):=(aK.refl _).upd hD
 have zn:∀ a,ZU (λa=>ZU B P a\/a = D) (λa=>a = D) a->ZU B P a\/H a = none:=λa z=>by
  rcases z with (z | z) | z
  ·exact .inl z
  ·exact .inr (by rw [z]; exact hD)
  ·exact .inr (by rw [z]; exact hD)
 have nD:∀ p xs,H p = some (.lst xs)->¬(p = D):=λp xs h e=>by rw [e,hD] at h; cases h
 refine ⟨by simp [rO,lU,Ev.length],λa z=>?_,λi d e=>?_,λi l e=>?_,λi l e=>?_,λi j l l' p e1 e2 h1 h2=>?_,λa o e=>⟨.inl (.inl (r.ob a o e).1),λz=>?_,((r.ob a o e).2.2.weak zn).same s⟩,λi l p e g=>?_⟩
 ·rcases zn a z with z' | z'
  ·exact (s.ext (λ_=>False)).there a (r.old a z')
  ·by_cases e:a = D
   ·rw [e,bj]; exact λz=>nomatch z
   ·rcases z with (z | z) | z
    ·exact absurd z' (r.old a z)
    ·exact absurd z e
    ·exact absurd z e
 ·obtain ⟨j,h1,h2,h3⟩:=kX e
  cases z:(ρ[j]?).getD none with
  | none=>rw [z] at h3; cases h3
  | some c=>
    rw [z] at h3
    have z':ρ[j]? = some (some c):=by
     cases w:ρ[j]? with
     | none=>rw [w] at z; cases z
     | some y=>rw [w] at z; rw [show y = some c from z]
    cases c with
    | v d'=>
      cases h3
      obtain ⟨v,g1,g2⟩:=r.vs j d z'
      exact ⟨v,kG h1 h2 g1,(g2.weak zn).same s⟩
    | m l=>cases h3
    | b l=>cases h3
 ·obtain ⟨j,h1,h2,h3⟩:=kX e
  cases z:(ρ[j]?).getD none with
  | none=>rw [z] at h3; cases h3
  | some c=>
    rw [z] at h3
    have z':ρ[j]? = some (some c):=by
     cases w:ρ[j]? with
     | none=>rw [w] at z; cases z
     | some y=>rw [w] at z; rw [show y = some c from z]
    cases c with
    | v d'=>cases h3
    | m l'=>
      cases h3
      obtain ⟨p,xs,g1,g2,g3,g4,g5,g6⟩:=r.ms j l z'
      exact ⟨p,xs,kG h1 h2 g1,nD p xs g4,s _ _ g4,g5,(g6.weak zn).same s⟩
    | b l'=>
      cases h3
      obtain ⟨p,xs,g1,g2,g4,g5,g6⟩:=r.bs j l z'
      exact ⟨p,xs,kG h1 h2 g1,nD p xs g4,s _ _ g4,g5,(g6.weak zn).same s⟩
 ·obtain ⟨j,h1,h2,h3⟩:=kX e
  cases z:(ρ[j]?).getD none with
  | none=>rw [z] at h3; cases h3
  | some c=>rw [z] at h3; cases c <;> cases h3
 ·obtain ⟨j,h1,h2,h3⟩:=kX e1
  cases z:(ρ[j]?).getD none with
  | none=>rw [z] at h3; cases h3
  | some c=>rw [z] at h3; cases c <;> cases h3
 ·obtain ⟨u,hu,_⟩:=(r.ob a o e).2.2.at
  rw [z,hD] at hu
  cases hu
 ·obtain ⟨j,h1,h2,h3⟩:=kX e
  cases z:(ρ[j]?).getD none with
  | none=>rw [z] at h3; cases h3
  | some c=>
    rw [z] at h3
    have z':ρ[j]? = some (some c):=by
     cases w:ρ[j]? with
     | none=>rw [w] at z; cases z
     | some y=>rw [w] at z; rw [show y = some c from z]
    cases c with
    | v d'=>cases h3
    | m l'=>
      cases h3
      obtain ⟨p',xs,g1,g2,_⟩:=r.ms j l z'
      rw [kG h1 h2 g1] at g
      cases g
      cases w:ρ.t p with
      | none=>exact w
      | some o=>exact absurd g2 (r.ob p o w).2.1
    | b l'=>
      cases h3
      obtain ⟨p',xs,g1,_⟩:=r.bs j l z'
      rw [kG h1 h2 g1] at g
      cases g
      exact r.bo j l p z' g1
theorem aM.grow {K:W.Frag} {B:Addr->Prop} {ρ:Ev} {σ:St} {H:Hp} {D:Addr} {xs ys:List V} (r:aM K B (λa=>a = D) ρ σ H) (hB:B D) (hD:H D = some (.lst xs)):aM K B (λa=>a = D) ρ σ (upd H D (.lst ys)):=by
 have ex:Ext (ZU B (λa=>a = D)) H (upd H D (.lst ys)):=Ext.upd hD (.inl hB)
 refine ⟨r.len,λa z=>ex.there a (r.old a z),λi d e=>?_,λi l e=>?_,λi l e=>?_,r.inj,λa o e=>⟨(r.ob a o e).1,(r.ob a o e).2.1,(r.ob a o e).2.2.mono ex (λ_ z=>z) (aZ (r.ob a o e).2.1)⟩,r.bo⟩
 ·obtain ⟨v,h1,h2⟩:=r.vs i d e
  exact ⟨v,h1,h2.mono ex λ_ z=>z⟩
 ·obtain ⟨p,xs,h1,h2,h3,h4,h5⟩:=r.bs i l e
  exact ⟨p,xs,h1,h2,by rw [aZ h2]; exact h3,h4,h5.mono ex λ_ z=>z⟩
 ·obtain ⟨p,xs,h1,h2,h3,_⟩:=r.ms i l e
  rw [h2] at h3
  exact absurd hB h3
theorem Av {wi:TI} {nt:Nat} {fr:List Nat} {g:Dv->Ev->Rs Ev} {σ:St} {H:Hp} {Q:VK} (h:Lp X.K X.mg E (cH ms nt fr g mt m) σ H Q):
  qa (Ih X.K X.mg E true ms) nt fr (tG X.K g) (Ei X.K X.mg E0 mt) (tD X.K X.mg E0 m) σ H Q:=by
 obtain ⟨B,P,ρ,r,o⟩:=h
 refine ⟨B,P,ρ,r,?_⟩
 unfold cH at o
 cases zi:ms ρ with
 | ex c=>rw [zi] at o; exact o
 | bad=>rw [zi] at o; exact o.elim
 | ok items=>
   rw [zi] at o
   intro H1 s1 J jw hlen D hD
   replace o:Out X.mg H E (cb (cE g mt m items (rO ρ nt fr))) _:=o
   cases zc:cE g mt m items (rO ρ nt fr) with
   | ex c=>rw [zc] at o; exact o.elim
   | bad=>rw [zc] at o; exact o.elim
   | ok total=>
     rw [zc] at o
     have hB:∀ {B:Addr->Prop},(λa=>ZU B P a\/a = D) D:=.inr rfl
     have hz:∀ a,ZU (λa=>ZU B P a\/a = D) (λa=>a = D) a->ZU B P a\/H1 a = none:=λa z=>by
      rcases z with (z | z) | z
      ·exact .inl z
      ·exact .inr (by rw [z]; exact hD)
      ·exact .inr (by rw [z]; exact hD)
     refine ⟨λi k σ2 H2=>k = items.length - i/\i<=items.length/\∃ ρ2 outs ys l,aM X.K (λa=>ZU B P a\/a = D) (λa=>a = D) ρ2 σ2 H2/\aK H1 H2/\H2 D = some (.lst ys)/\a7 X.K (ZU (λa=>ZU B P a\/a = D) (λa=>a = D)) H2 outs ys/\outs.length<=i/\cE g mt m (items.drop i) ρ2 = .ok l/\outs++l = total,
      ⟨items.length,by simp,Nat.zero_le _,rO ρ nt fr,[],[],total,(r.same s1).comp nt fr hD,(aK.refl _).upd hD,bj,rfl,Nat.le_refl _,by rw [List.drop_zero]; exact zc,rfl⟩,?_⟩
     rintro i k σ2 H2 ⟨rfl,hi,ρ2,outs,ys,l,r2,s2,hy,hro,ho,hc,ht⟩
     have j:=jw (ZU (λa=>ZU B P a\/a = D) (λa=>a = D)) i H2 hz (s2.ext _) (λ_=>s2)
     by_cases hlt:i < items.length
     ·have e:items.drop i = items[i]::items.drop (i+1):=List.drop_eq_getElem_cons hlt
      rw [e] at hc
      obtain ⟨go,yl⟩:=j.1 items[i] (by simp [hlt])
      refine .inr ⟨go,λx H3 y=>?_⟩
      obtain ⟨sm,hv⟩:=yl x H3 y
      unfold cE at hc
      cases z1:g items[i] ρ2 with
      | ex c=>rw [z1] at hc; cases hc
      | bad=>rw [z1] at hc; cases hc
      | ok ρ3=>
        rw [z1] at hc
        refine ⟨_,_,ρ2,items[i],ρ3,r2.same sm,hv,z1,λσ3 r3=>⟨_,_,ρ3,r3,?_⟩⟩
        replace hc:((mt ρ3).bind λk=>if k = true then (m ρ3).bind λy=>(cE g mt m (items.drop (i+1)) ρ3).bind λl=>.ok (y::l) else cE g mt m (items.drop (i+1)) ρ3) = .ok l:=hc
        cases z2:mt ρ3 with
        | ex c=>rw [z2] at hc; cases hc
        | bad=>rw [z2] at hc; cases hc
        | ok k=>
          rw [z2] at hc
          intro H4 s4
          cases k with
          | false=>
            refine Bs ⟨items.length - (i+1),by omega,rfl,hlt,ρ3,outs,ys,l,r3.same s4,s2.trans (sm.trans s4),s4 _ _ (sm _ _ hy),hro.same (sm.trans s4),by omega,hc,ht⟩
          | true=>
            refine Bq ⟨_,_,ρ3,r3.same s4,?_⟩
            replace hc:((m ρ3).bind λy=>(cE g mt m (items.drop (i+1)) ρ3).bind λl=>.ok (y::l)) = .ok l:=hc
            cases z3:m ρ3 with
            | ex c=>rw [z3] at hc; cases hc
            | bad=>rw [z3] at hc; cases hc
            | ok yd=>
              rw [z3] at hc
              intro H5 s5 yv hyv
              replace hc:((cE g mt m (items.drop (i+1)) ρ3).bind λl=>.ok (yd::l)) = .ok l:=hc
              cases z4:cE g mt m (items.drop (i+1)) ρ3 with
              | ex c=>rw [z4] at hc; cases hc
              | bad=>rw [z4] at hc; cases hc
              | ok l'=>
                rw [z4] at hc
                have el:yd::l' = l:=Rs.ok.inj hc
                have hy5:H5 D = some (.lst ys):=s5 _ _ (s4 _ _ (sm _ _ hy))
                have ex:Ext (ZU (λa=>ZU B P a\/a = D) (λa=>a = D)) H5 (upd H5 D (.lst (ys++[yv]))):=Ext.upd hy5 (.inr rfl)
                have hol:ys.length < sizeLine:=by rw [hro.len]; omega
                refine ⟨ys,hy5,hol,items.length - (i+1),by omega,rfl,hlt,ρ3,outs++[yd],ys++[yv],l',(r3.same (s4.trans s5)).grow (.inr rfl) hy5,?_,bj,((hro.same (sm.trans (s4.trans s5))).app (.one hyv)).mono ex λ_ z=>z,by rw [List.length_append]; exact Nat.succ_le_succ ho,z4,by rw [←ht,←el]; simp⟩
                exact (s2.trans (sm.trans (s4.trans s5))).upd hD
     ·have e:items.drop i = []:=List.drop_eq_nil_of_le (by omega)
      rw [e] at hc
      cases hc
      rw [List.append_nil] at ht
      subst ht
      refine .inl ⟨j.2 (by omega),o H2 (s1.trans s2) D ys (s1.free hD) hy ?_ ?_⟩
      ·omega
      ·exact hro.weak λa z=>.inl (.inl z)
abbrev HI (X:Cx) (E:XK) (ifs:List Expr) (m:MT):Prop:=oV X ifs (Ei X.K X.mg E m)
theorem iO:HI X E [] dC:=λpins s σ H Q I ⟨B,P,ρ,r,o⟩=>Gm pins s σ H Q I o.ok
theorem Dj (h:DT X E c mt):HI X E [c] mt:=GR h
theorem iV (sc:Scope) (ok:mM scope sc N nt = true) (hi:DI X E true tg iter ms) (body:∀ cl C s₀ H₀ ex,DG (cf X N scope cl C s₀ H₀ ex) tg g/\HI (cf X N scope cl C s₀ H₀ ex) E0 ifs mt/\DE (cf X N scope cl C s₀ H₀ ex) E0 elt m)
  (hsc:X.env.scope = sc:=by rfl) (hc:X.calm = true:=by rfl) (hk:scope.kind = .function:=by rfl) (hN:N.length = nt+fr.length:=by rfl) (hfr:fr.map (λi=>X.N[i]?) = (N.drop nt).map some:=by rfl)
  (hs:∀ x,foldedSetIterable iter X.env x = pure x:=by intro _; rfl):DN X E (.ListComp elt [⟨tg,iter,ifs,0⟩] scope pos) (cH ms nt fr g mt m):=
 (L5 sc ok hi body hsc hc hk hN hfr hs).imp λσ H Q h=>Av (wi:=Ih X.K X.mg E true ms) h
theorem vo {spos py:Pos} {i:Nat} {y:Str} (sc:Scope) (hND:X.N.Nodup) (ok:mM scope sc N nt = true) (hi:DI X E true tg iter ms) (body:∀ cl C s₀ H₀ ex,DG (cf X N scope cl C s₀ H₀ ex) tg g/\HI (cf X N scope cl C s₀ H₀ ex) E0 ifs mt/\DE (cf X N scope cl C s₀ H₀ ex) E0 elt m)
  (hy:X.N[i]? = some y:=by rfl) (hx:X.env.scope.names.lookup y = some .local:=by rfl)
  (hsc:X.env.scope = sc:=by rfl) (hc:X.calm = true:=by rfl) (hk:scope.kind = .function:=by rfl) (hN:N.length = nt+fr.length:=by rfl) (hfr:fr.map (λi=>X.N[i]?) = (N.drop nt).map some:=by rfl)
  (hsw:swapsWith (.ListComp elt [⟨tg,iter,ifs,0⟩] scope pos) (some (.Name y py)) spos.line X.env = pure true:=by rfl)
  (han:X.dZ = none\/i∈X.iW:=by first | exact .inl rfl | exact .inr (by decide) | assumption)
  (hs:∀ x,foldedSetIterable iter X.env x = pure x:=by intro _; rfl):DS X E q (.Assign [.Name y py] (.ListComp elt [⟨tg,iter,ifs,0⟩] scope pos) spos) (jU i (cH ms nt fr g mt m)):=
 (EO sc hND ok hi body hy hx hsc hc hk hN hfr hsw han hs).imp λD σ H h=>Av (wi:=Ih X.K X.mg E true ms) (Ed h)
end
end L2
end
section
namespace L2
open PySem PySem.Spec PyProof.Rows
section
variable {X:Cx} {E:XK} {K:W.Frag}
def mE (g:Int->Int->Dv):Dv->Dv->Rs Dv
 | .int i,.int j=>.ok (g i j)
 | _,_=>.bad
def HL (C:Int->Int->Prop) [∀ i j,Decidable (C i j)] (g:Int->Int->Dv):Dv->Dv->Rs Dv
 | .int i,.int j=>if C i j then .ok (g i j) else .bad
 | _,_=>.bad
instance (i j:Int):Decidable (BU i j):=by unfold BU; exact inferInstance
instance (i j:Int):Decidable (lY i j):=by unfold lY; exact inferInstance
instance (i j:Int):Decidable (BE i j):=by unfold BE; exact inferInstance
def toV:Dv->V
 | .non=>.non | .bl b=>.bl b | .int i=>.int i | .str x=>.str x | _=>.non
theorem Ko (h:∀ K Z H i j,Rp K Z H (g i j) (gv i j)):c6 K (cI gv) (mE g):=by
 intro mg E Z H x y d d' Q hz hx hy o
 cases d with
 | int i=>
   cases d' with
   | int j=>rw [show x = _ from hx,show y = _ from hy]; exact o.ok _ (h K Z H i j)
   | _=>exact o.elim
 | _=>exact o.elim
theorem Oz [∀ i j,Decidable (C i j)] (h:∀ K Z H i j,Rp K Z H (g i j) (gv i j)):c6 K (qW C gv) (HL C g):=by
 intro mg E Z H x y d d' Q hz hx hy o
 cases d with
 | int i=>
   cases d' with
   | int j=>
     rw [show x = _ from hx,show y = _ from hy]
     unfold HL at o
     dsimp only at o
     split at o
     ·rename_i hc; exact ⟨hc,o.ok _ (h K Z H i j)⟩
     ·exact o.elim
   | _=>exact o.elim
 | _=>exact o.elim
abbrev nr:=mE λi j=>.int (i - j)
abbrev GA:=HL lY λi j=>.int (i * j)
abbrev Co:=HL (λ_ j=>0 < j) λi j=>.int (i % j)
abbrev Ai:=mE λi j=>.bl (decide (j < i))
abbrev sj:=mE λi j=>.bl (decide (j<=i))
theorem pR:c6 K (cI λi j=>.int (i - j)) nr:=Ko λ_ _ _ _ _=>rfl
theorem Na:c6 K (qW lY λi j=>.int (i * j)) GA:=Oz λ_ _ _ _ _=>rfl
theorem NN:c6 K (qW (λ_ j=>0 < j) λi j=>.int (i % j)) Co:=Oz λ_ _ _ _ _=>rfl
theorem F2:c6 K (cI λi j=>.bl (decide (j < i))) Ai:=Ko λ_ _ _ _ _=>rfl
theorem B5:c6 K (cI λi j=>.bl (decide (j<=i))) sj:=Ko λ_ _ _ _ _=>rfl
theorem J3:b4 X (binaryOp .Add) (λx y H Q=>∃ l b xs zs,x = .ref l/\y = .ref b/\Rd H l (.lst xs)/\Rd H b (.lst zs)/\xs.length+zs.length<=sizeLine/\∀ p,H p = none->Q (.ref p) (upd H p (.lst (xs++zs)))):=by
 intro pins s σ H x y v u Q I rx ry h
 obtain ⟨l,b,xs,zs,rfl,rfl,hH,hB,hz,q⟩:=h
 cases rx
 cases ry
 obtain ⟨z,its,n,r,e⟩:=hH.ok I.bt
 obtain ⟨z2,its2,n2,r2,e2⟩:=hB.ok I.bt
 have hl:=r.length
 have hl2:=r2.length
 refine PySem.P.add_list e e2 ?_ (by rw [List.size_toArray,List.size_toArray]; omega)
 have ea:its.toArray++its2.toArray = (its++its2).toArray:=by simp
 rw [ea]
 exact ⟨.ref _,_,I.Lh (t':=s.toks) (r.append r2) (by rw [List.length_append]; omega),rfl,q _ I.fresh⟩
def G9 (K:W.Frag):R2:=λx y H Q=>(qR (λi j=>.int (i+j)) x y H Q)\/(∃ i j,x = .str i/\y = .str j/\i.length+j.length<=sizeLine/\Q (.str (i++j)) H)\/
 (∃ l b xs zs,x = .ref l/\y = .ref b/\Rd H l (.lst xs)/\Rd H b (.lst zs)/\xs.length+zs.length<=sizeLine/\∀ p,H p = none->Q (.ref p) (upd H p (.lst (xs++zs))))\/Hv K x y H Q
theorem dP:b4 X (binaryOp .Add) (G9 X.K):=Lv.or (Bw.or (J3.or Ki))
def bX:Dv->Dv->Rs Dv
 | .int i,.int j=>.ok (.int (i+j))
 | .str a,.str b=>if a.length+b.length<=sizeLine then .ok (.str (a++b)) else .bad
 | .lst a,.lst b=>if a.length+b.length<=sizeLine then .ok (.lst (a++b)) else .bad
 | .tup a,.tup b=>if a.length+b.length<=sizeLine/\a.length≠0 then .ok (.tup (a++b)) else .bad
 | _,_=>.bad
theorem p_add:c6 K (G9 K) bX:=by
 intro mg E Z H x y d d' Q hz hx hy o
 cases d with
 | int i=>
   cases d' with
   | int j=>rw [show x = _ from hx,show y = _ from hy]; exact .inl ⟨i,j,rfl,rfl,o.ok _ rfl⟩
   | _=>exact o.elim
 | str i=>
   cases d' with
   | str j=>
     rw [show x = _ from hx.1,show y = _ from hy.1]
     unfold bX at o
     dsimp only at o
     split at o
     ·rename_i hl; exact .inr (.inl ⟨i,j,rfl,rfl,hl,o.ok _ ⟨rfl,by rw [strLen_append]; exact hl⟩⟩)
     ·exact o.elim
   | _=>exact o.elim
 | lst i=>
   cases d' with
   | lst j=>
     obtain ⟨a,xs,rfl,h1,h2,h3⟩:=hx
     obtain ⟨b,ys,rfl,g1,g2,g3⟩:=hy
     unfold bX at o
     dsimp only at o
     split at o
     ·rename_i hl
      refine .inr (.inr (.inl ⟨a,b,xs,ys,rfl,rfl,h1,g1,by rw [h3.len,g3.len]; exact hl,λp hp=>?_⟩))
      have s2:aK H (upd H p (.lst (xs++ys))):=(aK.refl _).upd hp
      exact o _ s2 _ ⟨p,_,rfl,.inl ⟨bj,λz=>hz p z hp⟩,by rw [List.length_append]; exact hl,(h3.app g3).same s2⟩
     ·exact o.elim
   | _=>exact o.elim
 | tup i=>
   cases d' with
   | tup j=>
     obtain ⟨a,xs,rfl,h1,h2,h3⟩:=hx
     obtain ⟨b,ys,rfl,g1,g2,g3⟩:=hy
     unfold bX at o
     dsimp only at o
     split at o
     ·rename_i hl
      refine .inr (.inr (.inr ⟨a,b,xs,ys,rfl,rfl,h1,g1,λe=>hl.2 (by rw [←h3.len,e]; rfl),by rw [h3.len,g3.len]; exact hl.1,λe=>?_,λe p hp=>?_⟩))
      ·have ej:j = []:=List.eq_nil_of_length_eq_zero (by rw [←g3.len,e]; rfl)
       subst ej
       rw [List.append_nil] at o
       exact o.ok _ ⟨a,xs,rfl,h1,h2,h3⟩
      ·have s2:aK H (upd H p (.tup (xs++ys))):=(aK.refl _).upd hp
       exact o _ s2 _ ⟨p,_,rfl,dz.of bj,by rw [List.length_append]; exact hl.1,(h3.app g3).same s2⟩
     ·exact o.elim
   | _=>exact o.elim
 | _=>exact o.elim
def ou:Dv->Dv->Option Bool
 | .int i,.int j=>some (decide (i = j))
 | .str i,.str j=>some (decide (i = j))
 | .bl i,.bl j=>some (decide (i = j))
 | .non,.non=>some true
 | .non,.int _=>some false | .int _,.non=>some false | .non,.bl _=>some false | .bl _,.non=>some false | .non,.str _=>some false | .str _,.non=>some false
 | .int _,.str _=>some false | .str _,.int _=>some false | .bl _,.str _=>some false | .str _,.bl _=>some false
 | _,_=>none
def d4 (d d':Dv):Rs Dv:=match ou d d' with
 | some k=>.ok (.bl k)
 | none=>.bad
def mJ (d d':Dv):Rs Dv:=match ou d d' with
 | some k=>.ok (.bl (!k))
 | none=>.bad
theorem DM (hx:gq K Z H d x) (hy:gq K Z H d' y) (h:ou d d' = some k):EW x y = some k:=by
 cases d <;> cases d' <;> first
  | (cases h; done)
  | (rw [show x = _ from hx,show y = _ from hy]; exact h)
  | (rw [show x = _ from hx.1,show y = _ from hy.1]; exact h)
  | (rw [show x = _ from hx.1,show y = _ from hy]; exact h)
  | (rw [show x = _ from hx,show y = _ from hy.1]; exact h)
theorem jn:c6 K HX d4:=by
 intro mg E Z H x y d d' Q hz hx hy o
 unfold d4 at o
 split at o
 ·rename_i k h
  unfold HX
  rw [DM hx hy h]
  exact o.ok _ rfl
 ·exact o.elim
theorem rK:c6 K Ij mJ:=by
 intro mg E Z H x y d d' Q hz hx hy o
 unfold mJ at o
 split at o
 ·rename_i k h
  unfold Ij
  rw [DM hx hy h]
  exact o.ok _ rfl
 ·exact o.elim
def ja:Dv->Dv->Rs Dv
 | .int i,.int j=>.ok (.bl (decide (i < j)))
 | .str i,.str j=>.ok (.bl (vB (Cd i) (Cd j)))
 | _,_=>.bad
def sH:Dv->Dv->Rs Dv
 | .int i,.int j=>.ok (.bl (decide (i<=j)))
 | .str i,.str j=>.ok (.bl (!vB (Cd j) (Cd i)))
 | _,_=>.bad
theorem uD:c6 K MZ ja:=by
 intro mg E Z H x y d d' Q hz hx hy o
 cases d <;> cases d' <;> first
  | exact o.elim
  | (rw [show x = _ from hx,show y = _ from hy]; exact o.ok _ rfl)
  | (rw [show x = _ from hx.1,show y = _ from hy.1]; exact o.ok _ rfl)
theorem yI:c6 K Ks sH:=by
 intro mg E Z H x y d d' Q hz hx hy o
 cases d <;> cases d' <;> first
  | exact o.elim
  | (rw [show x = _ from hx,show y = _ from hy]; exact o.ok _ rfl)
  | (rw [show x = _ from hx.1,show y = _ from hy.1]; exact o.ok _ rfl)
def jF:Dv->Bool
 | .tup _=>false | .lst _=>false | .seq _=>false | .ob _=>false | .exc _=>false | _=>true
def inD (d:Dv) (l:List Dv):Bool:=l.any λe=>qU (toV e) (toV d)
def pP (neg:Bool):Dv->Dv->Rs Dv:=λd d'=>match d' with
 | .str j=>(match d with
   | .str i=>.ok (.bl (xor neg (!(Builtin.Str.occurrences j i 0 j.length 1).isEmpty)))
   | _=>.bad)
 | .lst l=>if jF d = true/\l.all jF = true then .ok (.bl (xor neg (inD d l))) else .bad
 | .tup l=>if jF d = true/\l.all jF = true then .ok (.bl (xor neg (inD d l))) else .bad
 | _=>.bad
theorem yr (h:gq K Z H d x) (f:jF d = true):x = toV d/\ip x = true:=by
 cases d with
 | tup _=>cases f
 | lst _=>cases f
 | seq _=>cases f
 | ob _=>cases f
 | exc _=>cases f
 | str y=>rw [show x = _ from h.1]; exact ⟨rfl,rfl⟩
 | non=>rw [show x = _ from h]; exact ⟨rfl,rfl⟩
 | bl y=>rw [show x = _ from h]; exact ⟨rfl,rfl⟩
 | int y=>rw [show x = _ from h]; exact ⟨rfl,rfl⟩
theorem uJ:∀ {l:List Dv} {xs:List V},a7 K Z H l xs->l.all jF = true->xs = l.map toV/\xs.all ip = true
 | [],_,h,_=>by rw [show _ = [] from h]; exact ⟨rfl,rfl⟩
 | d::l,_,⟨x,r,h0,h1,h2⟩,f=>by
   subst h0
   rw [List.all_cons,Bool.and_eq_true] at f
   obtain ⟨e1,e2⟩:=yr h1.b f.1
   obtain ⟨e3,e4⟩:=uJ h2 f.2
   exact ⟨by rw [List.map_cons,←e1,←e3],by rw [List.all_cons,e2,e4]; rfl⟩
theorem Hk:Eh (toV d) (l.map toV) = inD d l:=by
 unfold Eh inD
 rw [List.any_map]
 rfl
theorem CG:c6 K (Et K neg) (pP neg):=by
 intro mg E Z H x y d d' Q hz hx hy o
 cases d' with
 | str j=>
   cases d with
   | str i=>rw [show x = _ from hx.1,show y = _ from hy.1]; exact o.ok _ rfl
   | _=>exact o.elim
 | lst l=>
   unfold pP at o
   dsimp only at o
   split at o
   ·rename_i hf
    obtain ⟨a,xs,rfl,h1,h2,h3⟩:=hy
    obtain ⟨e1,e2⟩:=yr hx hf.1
    obtain ⟨e3,e4⟩:=uJ h3 hf.2
    refine ⟨e2,xs,.inl h1.sq,e4,?_⟩
    rw [e1,e3,Hk]
    exact o.ok _ rfl
   ·exact o.elim
 | tup l=>
   unfold pP at o
   dsimp only at o
   split at o
   ·rename_i hf
    obtain ⟨a,xs,rfl,h1,h2,h3⟩:=hy
    obtain ⟨e1,e2⟩:=yr hx hf.1
    obtain ⟨e3,e4⟩:=uJ h3 hf.2
    refine ⟨e2,xs,.inr h1,e4,?_⟩
    rw [e1,e3,Hk]
    exact o.ok _ rfl
   ·exact o.elim
 | _=>exact o.elim
def aw:Dv->Dv->Rs Dv
 | .str z,.int i=>match fC (Cd z) i with
   | some c=>.ok (.str (ao [c]))
   | none=>.bad
 | .lst l,.int i=>match fC l i with
   | some d=>.ok d
   | none=>.bad
 | .tup l,.int i=>match fC l i with
   | some d=>.ok d
   | none=>.bad
 | .seq l,.int i=>match fC l i with
   | some d=>.ok d
   | none=>.bad
 | _,_=>.bad
theorem a7.fC (h:a7 K Z H l xs) (e:L2.fC l i = some d):∃ x,L2.fC xs i = some x/\Rp K Z H d x:=by
 unfold L2.fC at e ⊢
 rw [h.len]
 cases q:kE l.length i with
 | none=>rw [q] at e; cases e
 | some j=>rw [q] at e; exact h.get e
theorem OJ:c6 K (Hd K) aw:=by
 intro mg E Z H x y d d' Q hz hx hy o
 cases d' with
 | int i=>
   rw [show y = _ from hy]
   cases d with
   | str z=>
     rw [show x = _ from hx.1]
     unfold aw at o
     dsimp only at o
     split at o
     ·rename_i c hc; exact ⟨hx.2,c,hc,o.ok _ ⟨rfl,by show 1<=sizeLine; decide⟩⟩
     ·exact o.elim
   | lst l=>
     obtain ⟨a,xs,rfl,h1,h2,h3⟩:=hx
     unfold aw at o
     dsimp only at o
     split at o
     ·rename_i c hc
      obtain ⟨v,g1,g2⟩:=h3.fC hc
      exact ⟨xs,v,.inl h1.sq,g1,o.ok _ g2⟩
     ·exact o.elim
   | tup l=>
     obtain ⟨a,xs,rfl,h1,h2,h3⟩:=hx
     unfold aw at o
     dsimp only at o
     split at o
     ·rename_i c hc
      obtain ⟨v,g1,g2⟩:=h3.fC hc
      exact ⟨xs,v,.inr h1,g1,o.ok _ g2⟩
     ·exact o.elim
   | seq l=>
     obtain ⟨a,xs,rfl,h1,h4,h2,h3⟩:=hx
     unfold aw at o
     dsimp only at o
     split at o
     ·rename_i c hc
      obtain ⟨v,g1,g2⟩:=h3.fC hc
      exact ⟨xs,v,.inl h1,g1,o.ok _ g2⟩
     ·exact o.elim
   | _=>exact o.elim
 | _=>cases d <;> exact o.elim
theorem bE (ha:DB X E a ma) (hb:DB X E b mb) (hs:jj b:=by intro _ _; rfl):DE X E (.Subscript a b pos) (m2 aw ma mb):=(Pl ha hb hs).imp λσ H Q h=>tJ OJ h
def pB {α:Type} (xs:List α) (lo hi:Option Int):List α:=(xs.drop (HT.bD xs.length 0 lo)).take (HT.bD xs.length xs.length hi - HT.bD xs.length 0 lo)
theorem qC {α:Type} (xs:List α) (lo hi:Option Int):(pB xs lo hi).length<=xs.length:=by
 unfold pB
 rw [List.length_take,List.length_drop]
 omega
theorem a7.cut (h:a7 K Z H l xs) (lo hi:Option Int):a7 K Z H (pB l lo hi) (kU xs lo hi):=by
 unfold pB kU
 rw [h.len]
 exact (h.drop _).take _
def tu (d:Dv) (lo hi:Option Int):Rs Dv:=match d with
 | .str z=>.ok (.str (ao (nR (Cd z) lo hi)))
 | .lst l=>.ok (.lst (pB l lo hi))
 | .tup l=>if HT.bD l.length 0 lo = 0/\HT.bD l.length l.length hi = l.length then .bad else .ok (.tup (pB l lo hi))
 | _=>.bad
def LK (K:W.Frag):V->Option Int->Option Int->Hp->VK->Prop:=λx lo hi H Q=>Mj K x lo hi H Q\/LU K x lo hi H Q
theorem Kv:mF X (LK X.K):=N3.or Mc
theorem O1 {lo hi:Option Int} {mg:Str->Option Value} {Z:Addr->Prop} {H:Hp} {x:V} {d:Dv} {Q:VK} (hz:∀ a,Z a->H a≠none) (hx:gq K Z H d x) (o:Out mg H E (tu d lo hi) (λr H'=>∀ v,Rp K Z H' r v->Q v H')):LK K x lo hi H Q:=by
 cases d with
 | str z=>
   rw [show x = _ from hx.1]
   exact .inl ⟨hx.2,o.ok _ ⟨rfl,by rw [fw]; exact Nat.le_trans (zJ _ _ _) hx.2⟩⟩
 | lst l=>
   obtain ⟨a,xs,rfl,h1,h2,h3⟩:=hx
   refine .inl ⟨xs,h1.sq,λp hp=>?_⟩
   have s2:aK H (upd H p (.lst (kU xs lo hi))):=(aK.refl _).upd hp
   exact o _ s2 _ ⟨p,_,rfl,.inl ⟨bj,λz=>hz p z hp⟩,Nat.le_trans (qC _ _ _) h2,(h3.cut lo hi).same s2⟩
 | tup l=>
   obtain ⟨a,xs,rfl,h1,h2,h3⟩:=hx
   unfold tu at o
   dsimp only at o
   split at o
   ·exact o.elim
   ·rename_i hn
    refine .inr ⟨a,xs,rfl,h1,by rw [h3.len]; exact hn,λp hp=>?_⟩
    have s2:aK H (upd H p (.tup (kU xs lo hi))):=(aK.refl _).upd hp
    exact o _ s2 _ ⟨p,_,rfl,dz.of bj,Nat.le_trans (qC _ _ _) h2,(h3.cut lo hi).same s2⟩
 | _=>exact o.elim
abbrev MO:=Ev->Rs (Option Int)
def Pf (K:W.Frag) (mg:Str->Option Value) (E:XK) (m:MO):TO:=λσ H Q=>∃ B P ρ,aM K B P ρ σ H/\Out mg H E (m ρ) λi H'=>Q i H'
abbrev DO (X:Cx) (E:XK) (e:Option Expr) (m:MO):Prop:=PO X e (Pf X.K X.mg E m)
theorem PO.imp {e:Option Expr} {t t':TO} (h:PO X e t) (hi:∀ σ H Q,t' σ H Q->t σ H Q):PO X e t':=λpins s σ H Q I q=>h pins s σ H Q I (hi σ H Q q)
def wI:MO:=λ_=>.ok none
def P8:Dv->Rs (Option Int)
 | .int i=>.ok (some i)
 | _=>.bad
def wH (m:ME):MO:=λρ=>(m ρ).bind P8
theorem AD:DO X E none wI:=PO.imp Ja λσ H Q ⟨B,P,ρ,r,o⟩=>o.ok
theorem AG (h:DE X E e m):DO X E (some e) (wH m):=PO.imp (Lw h) λσ H Q ⟨B,P,ρ,r,o⟩=>⟨B,P,ρ,r,o.bind λd H1 _ s1 o1 v hv=>by
 cases d with
 | int i=>rw [show v = _ from hv]; exact o1.ok
 | _=>exact o1.elim⟩
def Ec (a:ME) (lo hi:MO):ME:=λρ=>(a ρ).bind λd=>(lo ρ).bind λl=>(hi ρ).bind λh=>tu d l h
theorem Bg {lo hi:Option Expr} {ml mh:MO} (ha:DB X E a ma) (hl:DO X E lo ml) (hh:DO X E hi mh):DE X E (.Subscript a (.Slice lo hi none p2) pos) (Ec ma ml mh):=(Gk Kv ha hl hh).imp λσ H Q ⟨B,P,ρ,r,o⟩=>
 ⟨B,P,ρ,r,o.bind λd H1 _ s1 o1 v hv=>⟨B,P,ρ,r.same s1,o1.bind λl H2 _ s2 o2=>⟨B,P,ρ,r.same (s1.trans s2),o2.bind λh H3 _ s3 o3=>
   O1 (r.same (s1.trans (s2.trans s3))).old (hv.same (s2.trans s3)) o3⟩⟩⟩
def b6:Dv->Rs Dv
 | .str z=>.ok (.int z.length)
 | .lst l=>.ok (.int l.length)
 | .tup l=>.ok (.int l.length)
 | .seq l=>.ok (.int l.length)
 | _=>.bad
theorem eT:ng K (λx=>FV K [x]) b6:=by
 intro mg E Z H x d Q hz hx o
 cases d with
 | str z=>rw [show x = _ from hx.1]; exact ⟨hx.2,o.ok _ rfl⟩
 | lst l=>
   obtain ⟨a,xs,rfl,h1,h2,h3⟩:=hx
   exact ⟨xs,.inl h1.sq,by rw [h3.len]; exact o.ok _ rfl⟩
 | tup l=>
   obtain ⟨a,xs,rfl,h1,h2,h3⟩:=hx
   exact ⟨xs,.inr h1,by rw [h3.len]; exact o.ok _ rfl⟩
 | seq l=>
   obtain ⟨a,xs,rfl,h1,h4,h2,h3⟩:=hx
   exact ⟨xs,.inl h1,by rw [h3.len]; exact o.ok _ rfl⟩
 | _=>exact o.elim
def j2:List Dv->Option (List Bool)
 | []=>some []
 | .bl b::l=>(j2 l).map (b::·)
 | _::_=>none
theorem Ia:∀ {l:List Dv} {bs:List Bool} {xs:List V},j2 l = some bs->a7 K Z H l xs->xs = bs.map V.bl
 | [],bs,xs,h,r=>by cases h; exact r
 | d::l,bs,xs,h,⟨x,r,h0,h1,h2⟩=>by
   subst h0
   cases d with
   | bl b=>
     unfold j2 at h
     cases q:j2 l with
     | none=>rw [q] at h; cases h
     | some bs'=>
       rw [q] at h
       cases h
       rw [show x = _ from h1,Ia q h2]
       rfl
   | _=>cases h
def ug (f:List Bool->Bool):Dv->Rs Dv
 | .lst l=>match j2 l with
   | some bs=>.ok (.bl (f bs))
   | none=>.bad
 | _=>.bad
abbrev lT:=ug λbs=>bs.all id
abbrev Pq:=ug λbs=>bs.any id
theorem wL:ng K (λx=>wZ K f [x]) (ug f):=by
 intro mg E Z H x d Q hz hx o
 cases d with
 | lst l=>
   obtain ⟨a,xs,rfl,h1,h2,h3⟩:=hx
   unfold ug at o
   dsimp only at o
   split at o
   ·rename_i bs hb
    exact ⟨bs,by rw [←Ia hb h3]; exact h1.sq,o.ok _ rfl⟩
   ·exact o.elim
 | _=>exact o.elim
def PN:Dv->Rs Dv
 | .lst l=>.ok (.tup l)
 | .tup l=>.ok (.tup l)
 | _=>.bad
def dList:Dv->Rs Dv
 | .lst l=>.ok (.lst l)
 | .tup l=>.ok (.lst l)
 | _=>.bad
theorem yy:ng K (λx=>uB K [x]) dList:=by
 intro mg E Z H x d Q hz hx o
 cases d with
 | lst l=>
   obtain ⟨a,xs,rfl,h1,h2,h3⟩:=hx
   refine ⟨xs,.inl h1.sq,λp hp=>?_⟩
   have s2:aK H (upd H p (.lst xs)):=(aK.refl _).upd hp
   exact o _ s2 _ ⟨p,_,rfl,.inl ⟨bj,λz=>hz p z hp⟩,h2,h3.same s2⟩
 | tup l=>
   obtain ⟨a,xs,rfl,h1,h2,h3⟩:=hx
   refine ⟨xs,.inr h1,λp hp=>?_⟩
   have s2:aK H (upd H p (.lst xs)):=(aK.refl _).upd hp
   exact o _ s2 _ ⟨p,_,rfl,.inl ⟨bj,λz=>hz p z hp⟩,h2,h3.same s2⟩
 | _=>exact o.elim
end
end L2
end
section
namespace L2
open PySem PySem.Spec PyProof.Rows
section
variable {X:Cx} {E:XK} {K:W.Frag} {a b c e:Expr} {es:List Expr} {ma mb mc m:ME} {ms:MA} {mt mu:MT} {pos p2 p:Pos} {x:Str} {q:Bool}
abbrev m5:List String:=["bool","int","str","list","tuple","dict"]
def Dv.iu:Dv->Bool
 | .ob _=>true | .exc _=>true | _=>false
theorem Eb {pins:List (Addr×Obj)} {s:Shared} {σ:St} {H:Hp} {x:V} {u:Value} {Z:Addr->Prop} {d:Dv} (I:Inv X pins σ H s) (rx:RelV x u) (hd:d.iu = false) (h:gq X.K Z H d x):
  ∃ Hh,PySem.W.KitX X.K u (.type d.kind) Hh/\Hh s.heap/\u≠.builtin "__main__.__loader__#opaque":=by
 cases d with
 | non=>rw [show x = _ from h] at rx; cases (show u = Value.none from rx); exact ⟨_,PySem.W.kitx_none,True.intro,λz=>nomatch z⟩
 | bl y=>rw [show x = _ from h] at rx; cases (show u = Value.bool y from rx); exact ⟨_,PySem.W.kitx_bool,True.intro,λz=>nomatch z⟩
 | int i=>rw [show x = _ from h] at rx; obtain ⟨t,q⟩:=(show ∃ t,u = Value.int i t from rx); cases q; exact ⟨_,PySem.W.kitx_int,True.intro,λz=>nomatch z⟩
 | str y=>rw [show x = _ from h.1] at rx; obtain ⟨t,q⟩:=(show ∃ t,u = Value.str y t from rx); cases q; exact ⟨_,PySem.W.kitx_str,True.intro,λz=>nomatch z⟩
 | tup l=>
   obtain ⟨a,xs,rfl,h1,h2,h3⟩:=h
   cases (show u = Value.ref a from rx)
   obtain ⟨its,_,⟨o,e1,e2,_⟩,_⟩:=I.tuple h1
   exact ⟨_,PySem.W.kitx_tuple,⟨o,e1,e2⟩,λz=>nomatch z⟩
 | lst l=>
   obtain ⟨a,xs,rfl,h1,h2,h3⟩:=h
   cases (show u = Value.ref a from rx)
   obtain ⟨its,_,⟨o,n,e1,e2,_⟩,_⟩:=I.list h1.sq
   exact ⟨_,PySem.W.kitx_list,⟨o,e1,e2⟩,λz=>nomatch z⟩
 | seq l=>
   obtain ⟨a,xs,rfl,h1,h4,h2,h3⟩:=h
   cases (show u = Value.ref a from rx)
   obtain ⟨its,_,⟨o,n,e1,e2,_⟩,_⟩:=I.list h1
   exact ⟨_,PySem.W.kitx_list,⟨o,e1,e2⟩,λz=>nomatch z⟩
 | ob a=>cases hd
 | exc a=>cases hd
theorem A9 {d:Dv} (hd:d.iu = false):d.kind∈["bool","int","str","NoneType","list","tuple","dict"]:=by
 cases d <;> first | (cases hd; done) | simp [Dv.kind]
def ET (K:W.Frag):List V->Hp->VK->Prop:=λxs H Q=>match xs with
 | [x,.ty n]=>∃ Z d,d.iu = false/\gq K Z H d x/\n∈m5/\Q (.bl (gG d.kind n)) H
 | [x,.ref p]=>∃ Z d,∃ ns:List String,d.iu = false/\gq K Z H d x/\H p = some (.tup (ns.map V.ty))/\(∀ n∈ns,n∈m5)/\Q (.bl (ns.any (gG d.kind))) H
 | _=>False
theorem Bd:cq X (.builtin "isinstance") (ET X.K):=by
 intro pins s σ H xs us Q I r q
 unfold ET at q
 split at q
 ·obtain ⟨Z,d,hd,h1,h2,h3⟩:=q
  obtain ⟨u,w',rfl,ru,rw'⟩:=vals2 r
  have ew:w' = Value.type _:=rw'
  subst ew
  obtain ⟨Hh,Z,p,hx⟩:=Eb I ru hd h1
  exact PySem.W.kia_one Z I.gZ p (D8 (A9 hd) h2) hx λtk=>⟨.bl _,H,I.tok _,rfl,h3⟩
 ·obtain ⟨Z,d,ns,hd,h1,h2,h3,h4⟩:=q
  obtain ⟨u,w',rfl,ru,rw'⟩:=vals2 r
  have ew:w' = Value.ref _:=rw'
  subst ew
  obtain ⟨Hh,Z,p,hx⟩:=Eb I ru hd h1
  obtain ⟨_,its,rv,o,e1,e2,n,e3⟩:=(show dD X.prog X.w H s.heap _ (.tup (ns.map V.ty)) from I.bt _ _ h2)
  have ei:=Gn rv
  subst ei
  obtain ⟨oc,od,odt,osl⟩:=o
  simp only at e2 e3
  subst e2 e3
  exact PySem.W.kia_tup Z I.gZ p e1 (vA (A9 hd) h3) hx λtk=>⟨.bl _,H,I.tok _,rfl,h4⟩
 ·exact q.elim
def cF (ns:List String):Dv->Rs Dv:=λd=>if d.iu = true then .bad else .ok (.bl (ns.any (gG d.kind)))
theorem AK {mg:Str->Option Value} {H:Hp} {ns:List String} {d:Dv} {k:Dv->Hp->Prop} {p:Prop} (o:Out mg H E (cF ns d) k) (h:d.iu = false->Out mg H E (.ok (.bl (ns.any (gG d.kind)))) k->p):p:=by
 unfold cF at o
 split at o
 ·exact o.elim
 ·rename_i hd; exact h (by simpa using hd) o
theorem dU {n:String} {t:Expr} (hm:X.mg "isinstance" = none) (ha:DB X E a ma) (ht:PE X t (tC (.ty n))) (hn:n∈m5:=by decide) (hst:isStar a = false:=by rfl) (hst2:isStar t = false:=by rfl) (hg:Gl X "isinstance":=by rfl):
  DE X E (.Call (.Name "isinstance" p) [a,t] [] pos) (m1 (cF [n]) ma):=
 (gJ Bd hg hm PyProof.Rows.boot_isinstance (d6 ha (d6 ht dm hst2) hst) (by decide) (by decide) (b5 hst) (cu (by rw [List.all_cons,hst2]; rfl))).imp λσ H Q ⟨B,P,ρ,r,o⟩=>
  ⟨B,P,ρ,r,o.bind λd H1 _ s1 o1 v hv=>AK o1 λhd o1=>⟨ZU B P,d,hd,hv,hn,by
    have h:=o1.ok _ rfl
    rw [List.any_cons,List.any_nil,Bool.or_false] at h
    exact h⟩⟩
theorem JK {n n':String} {t t':Expr} {k:Nat} (hm:X.mg "isinstance" = none) (ha:DB X E a ma) (ht:PE X t (tC (.ty n))) (ht':PE X t' (tC (.ty n'))) (hn:n∈m5:=by decide) (hn':n'∈m5:=by decide) (hst:isStar a = false:=by rfl) (hst2:isStar t = false:=by rfl) (hst3:isStar t' = false:=by rfl) (hg:Gl X "isinstance":=by rfl):
  DE X E (.Call (.Name "isinstance" p) [a,.Tuple [t,t'] k p2] [] pos) (m1 (cF [n,n']) ma):=
 (gJ Bd hg hm PyProof.Rows.boot_isinstance (d6 ha (d6 (Dx (d6 ht (d6 ht' dm hst3) hst2)) dm rfl) hst) (by decide) (by decide) (b5 hst) (cu rfl)).imp λσ H Q ⟨B,P,ρ,r,o⟩=>
  ⟨B,P,ρ,r,o.bind λd H1 _ s1 o1 v hv=>AK o1 λhd o1=>⟨by show 2<=sizeLine; decide,λp hp=>by
    have s2:aK H1 (upd H1 p (.tup [.ty n,.ty n'])):=(aK.refl _).upd hp
    refine ⟨ZU B P,d,[n,n'],hd,hv.same s2,bj,λz hz=>?_,o1 _ s2 _ rfl⟩
    rcases List.mem_cons.mp hz with rfl | hz
    ·exact hn
    ·rw [List.mem_singleton.mp hz]; exact hn'⟩⟩
def Qd (f:Str->Dv->Rs Dv) (a e:ME):ME:=λρ=>(a ρ).bind λd=>match d with
 | .str z=>(e ρ).bind λy=>f z y
 | _=>.bad
theorem vj:∀ {ys:List Str} {us:List Value},Vals (ys.map V.str) us->∃ l:List (Str×Tok),us = strValues l/\l.map (·.1) = ys
 | [],_,.nil=>⟨[],rfl,rfl⟩
 | y::r,_,.cons h t=>by
   obtain ⟨tk,rfl⟩:=h
   obtain ⟨l,e1,e2⟩:=vj t
   exact ⟨(y,tk)::l,by rw [e1]; rfl,by rw [List.map_cons,e2]⟩
def strsOf:List Dv->Option (List Str)
 | []=>some []
 | .str b::l=>(strsOf l).map (b::·)
 | _::_=>none
theorem xW:∀ {l:List Dv} {bs:List Str} {xs:List V},strsOf l = some bs->a7 K Z H l xs->xs = bs.map V.str
 | [],bs,xs,h,r=>by cases h; exact r
 | d::l,bs,xs,h,⟨x,r,h0,h1,h2⟩=>by
   subst h0
   cases d with
   | str b=>
     unfold strsOf at h
     cases q:strsOf l with
     | none=>rw [q] at h; cases h
     | some bs'=>
       rw [q] at h
       cases h
       rw [show x = _ from h1.1,xW q h2]
       rfl
   | _=>cases h
def pd:Dv->Rs Dv
 | .str z=>.ok (.str z)
 | .int i=>if i.natAbs.log2 < 1920 then .ok (.str (Str.ofString (toString i))) else .bad
 | _=>.bad
theorem Hr (he:DE X E e m):DE X E (.FormattedValue e (-1) none pos) (m1 pd m):=(CU he).imp λσ H Q ⟨B,P,ρ,r,o⟩=>⟨B,P,ρ,r,o.bind λd H1 _ s1 o1 v hv=>by
 cases d with
 | str z=>rw [show v = _ from hv.1]; exact ⟨hv.2,o1.ok _ ⟨rfl,hv.2⟩⟩
 | int i=>
   rw [show v = _ from hv]
   unfold pd at o1
   dsimp only at o1
   split at o1
   ·rename_i hl; exact ⟨hl,o1.ok _ ⟨rfl,int_text_fits hl⟩⟩
   ·exact o1.elim
 | _=>exact o1.elim⟩
def oF (acc:Str):Dv->Rs Str
 | .str y=>if acc.length+y.length<=sizeLine then .ok (acc++y) else .bad
 | _=>.bad
def tZ:List ME->Str->Ev->Rs Dv
 | [],acc,_=>.ok (.str acc)
 | t::r,acc,ρ=>(t ρ).bind λd=>(oF acc d).bind λacc'=>tZ r acc' ρ
def DJ (X:Cx) (E:XK):List Expr->List ME->Prop
 | [],[]=>True
 | e::r,t::ts=>DE X E e t/\DJ X E r ts
 | _,_=>False
theorem Lx:DJ X E [] []:=trivial
theorem uv (h:DE X E e m) (r:DJ X E es ts):DJ X E (e::es) (m::ts):=⟨h,r⟩
theorem HF:∀ {es:List Expr} {ts:List ME},DJ X E es ts->PJ X es (ts.map (tD X.K X.mg E))
 | [],[],_=>trivial
 | [],_::_,h=>h.elim
 | _::_,[],h=>h.elim
 | _::_,_::_,h=>⟨h.1,HF h.2⟩
theorem AJ:∀ {ts:List ME} {acc:Str} {H:Hp},aM X.K B P ρ σ H->acc.length<=sizeLine->Out X.mg H E (tZ ts acc ρ) (λd H'=>∀ v,Rp X.K (ZU B P) H' d v->Q v H')->tQ (ts.map (tD X.K X.mg E)) acc σ H Q
 | [],acc,H,r,hl,o=>o.ok _ ⟨rfl,hl⟩
 | t::ts,acc,H,r,hl,o=>⟨B,P,ρ,r,o.bind λd H1 _ s1 o1 v hv=>by
   cases d with
   | str y=>
     rw [show v = _ from hv.1]
     unfold oF at o1
     dsimp only at o1
     split at o1
     ·rename_i hc; exact ⟨hc,AJ (r.same s1) (by rw [strLen_append]; exact hc) o1⟩
     ·exact o1.elim
   | _=>exact o1.elim⟩
theorem MN (h:DJ X E (e::e2::es) ts):DE X E (.JoinedStr (e::e2::es) pos) (tZ ts Str.empty):=(AO (HF h)).imp λσ H Q ⟨B,P,ρ,r,o⟩=>AJ r (by decide) o
def tU (K:W.Frag) (mg:Str->Option Value) (E:XK) (n:Nat) (m:Ev->Rs Unit):TE:=λσ H Q=>∃ B P ρ,aM K B P ρ σ H/\Out mg H E (m ρ) λ_ H'=>∀ y:Str,y.length<=n->Q (.str y) H'
abbrev DU (X:Cx) (E:XK) (e:Expr) (n:Nat) (m:Ev->Rs Unit):Prop:=PE X e (tU X.K X.mg E n m)
def g9:Ev->Rs Unit:=λ_=>.ok ()
theorem fh (n:Nat) (h:i.length<=n:=by decide +kernel):DU X E (.Constant (.str i) j pos) n g9:=EH.imp λσ H Q ⟨B,P,ρ,r,o⟩=>o.ok i h
def uX (n:Nat) (m:ME):Ev->Rs Unit:=λρ=>(m ρ).bind λd=>match d with
 | .str z=>if z.length<=n then .ok () else .bad
 | .int i=>if i.natAbs.log2 < 1920 then .ok () else .bad
 | _=>.bad
theorem Cb (he:DE X E e m):DU X E (.FormattedValue e (-1) none pos) 100000 (uX 100000 m):=(CU he).imp λσ H Q ⟨B,P,ρ,r,o⟩=>⟨B,P,ρ,r,o.bind λd H1 _ s1 o1 v hv=>by
 cases d with
 | str z=>
   rw [show v = _ from hv.1]
   dsimp only at o1
   split at o1
   ·rename_i hl; exact ⟨hv.2,o1.ok z hl⟩
   ·exact o1.elim
 | int i=>
   rw [show v = _ from hv]
   dsimp only at o1
   split at o1
   ·rename_i hl
    refine ⟨hl,o1.ok _ ?_⟩
    rw [PySem.ofString_length]
    exact Nat.le_trans (int_text_length_le (by decide) hl) (by decide)
   ·exact o1.elim
 | _=>exact o1.elim⟩
def pb:List (Ev->Rs Unit)->Ev->Rs Unit
 | [],_=>.ok ()
 | t::r,ρ=>(t ρ).bind λ_=>pb r ρ
def AY (X:Cx) (E:XK):List Expr->List (Nat×(Ev->Rs Unit))->Prop
 | [],[]=>True
 | e::r,t::ts=>DU X E e t.1 t.2/\AY X E r ts
 | _,_=>False
theorem ze:AY X E [] []:=trivial
theorem jm (h:DU X E e n u) (r:AY X E es ts):AY X E (e::es) ((n,u)::ts):=⟨h,r⟩
theorem HP:∀ {es:List Expr} {ts:List (Nat×(Ev->Rs Unit))},AY X E es ts->PJ X es (ts.map λt=>tU X.K X.mg E t.1 t.2)
 | [],[],_=>trivial
 | [],_::_,h=>h.elim
 | _::_,[],h=>h.elim
 | _::_,_::_,h=>⟨h.1,HP h.2⟩
theorem HC:∀ {ts:List (Nat×(Ev->Rs Unit))} {acc:Str} {H:Hp},aM X.K B P ρ σ H->acc.length+ (ts.map (·.1)).sum<=N->N<=sizeLine->
  Out X.mg H E (pb (ts.map (·.2)) ρ) (λ_ H'=>∀ y:Str,y.length<=N->Q (.str y) H')->tQ (ts.map λt=>tU X.K X.mg E t.1 t.2) acc σ H Q
 | [],acc,H,r,hl,hN,o=>o.ok acc (by simpa using hl)
 | t::ts,acc,H,r,hl,hN,o=>⟨B,P,ρ,r,o.bind λ_ H1 _ s1 o1 y hy=>by
   have hl':acc.length+ (t.1+ (ts.map (·.1)).sum)<=N:=by simpa using hl
   refine ⟨by omega,HC (r.same s1) (by rw [strLen_append]; omega) hN o1⟩⟩
theorem xt (N:Nat) (h:AY X E (e::e2::es) ts) (hn:(ts.map (·.1)).sum<=N:=by decide) (hN:N<=sizeLine:=by decide):DU X E (.JoinedStr (e::e2::es) pos) N (pb (ts.map (·.2))):=(AO (HP h)).imp λσ H Q ⟨B,P,ρ,r,o⟩=>
 HC r (by show 0+ _<=N; omega) hN o
def bS (c:Str) (u:Ev->Rs Unit):MS:=λρ=>(u ρ).bind λ_=>.ex c
theorem cY (cx:pI X.K X.mg x (aR X.mg x)) (pm:PM X E) (he:DU X E e n u) (hst:isStar e = false:=by rfl) (hc:X.calm = true:=by rfl) (hg:Gl X x:=by rfl) (hdb:(x == ("__debug__":Str)) = false:=by decide):
  DS X E q (.Raise (some (.Call (.Name x np) [e] [] cpos)) none pos) (bS x u):=
 (GH cx pm (d6 he dm hst) hc hg hdb (b5 hst) (cu rfl)).imp λD σ H ⟨B,P,ρ,r,o⟩=>
  ⟨B,P,ρ,r,o.bind λ_ H1 _ s1 o1 y hy=>o1 H1 Ext.refl λ_=>aK.refl _⟩
end
end L2
end
section
namespace L2
open PySem PySem.Spec PyProof.Rows
def aE (n:Nat) (τ:cw) (ds:List Dv):Ev:=⟨ds.map (λd=>some (.v d))++List.replicate (n - ds.length) none,τ⟩
def jX:Rs Fl->Rs Dv
 | .ok (.nx _)=>.ok .non
 | .ok (.rt d)=>.ok d
 | .ok _=>.bad
 | .ex c=>.ex c
 | .bad=>.bad
def aV (n k:Nat) (m:MS) (τ:cw) (ds:List Dv):Rs Dv:=if ds.length = k then jX (m (aE n τ ds)) else .bad
section
variable {P:Program} {w:World} {K:W.Frag} {mg:Str->Option Value} {base:Heap} {x:Str} {st:Stmt} {N ps:List Str} {k:Nat}
theorem oN (hz:∀ a,Z a->H a≠none) (ht:oi K Z τ H) (h:a7 K Z H ds vs) (hl:ds.length<=N.length):aM K Z (λ_=>False) (aE N.length τ ds) (start N vs) H:=by
 have hv:=h.len
 have get:∀ (i:Nat) c,(aE N.length τ ds)[i]? = some (some c)->∃ d,ds[i]? = some d/\c = .v d:=λi c e=>by
  replace e:(ds.map (λd=>some (Cell.v d))++List.replicate (N.length - ds.length) none)[i]? = some (some c):=e
  by_cases hi:i < ds.length
  ·rw [List.getElem?_append_left (by simpa using hi),List.getElem?_map] at e
   refine ⟨ds[i],by simp [hi],?_⟩
   simp [hi] at e
   exact e.symm
  ·rw [List.getElem?_append_right (by simpa using Nat.le_of_not_lt hi),List.getElem?_replicate] at e
   split at e <;> cases e
 have hw:∀ a,ZU Z (λ_=>False) a->Z a\/H a = none:=λa z=>z.elim .inl λz=>z.elim
 refine ⟨?_,λa z=>hz a (z.elim id λz=>z.elim),λi d e=>?_,λi l e=>?_,λi l e=>?_,λi j l l' p e _ _ _=>?_,λa o e=>⟨(ht a o e).1,λz=>z,(ht a o e).2.weak hw⟩,λi l p e _=>?_⟩
 ·unfold aE start
  simp [hv,Ev.length]
 ·obtain ⟨d',h1,h2⟩:=get i _ e
  cases h2
  obtain ⟨v,g1,g2⟩:=h.get h1
  refine ⟨v,?_,g2.weak hw⟩
  unfold start
  have hi:i < vs.length:=(List.getElem?_eq_some_iff.mp g1).1
  rw [List.getElem?_append_left (by simpa using hi),List.getElem?_map,g1]
  rfl
 ·obtain ⟨d',h1,h2⟩:=get i _ e; cases h2
 ·obtain ⟨d',h1,h2⟩:=get i _ e; cases h2
 ·obtain ⟨d',h1,h2⟩:=get i _ e; cases h2
 ·obtain ⟨d',h1,h2⟩:=get i _ e; cases h2
theorem Ap (o:Out mg H E (aV n k m τ ds) λd H'=>∀ v,Rp K Z H' d v->Q v H'):eM K mg false Z (λ_=>False) H E (m (aE n τ ds)) { nx:=λ_ H'=>Q .non H',rt:=Q }:=by
 unfold aV at o
 split at o
 ·cases z:m (aE n τ ds) with
  | ok f=>
    rw [z] at o
    cases f with
    | nx ρ=>exact λP' σ' H' st _=>o H' (st.ext.same λ_ z=>z) _ rfl
    | rt d=>exact λv H' ex hv=>o H' (ex.same λ_ z=>z) v hv
    | bk ρ=>exact o.elim
    | ct ρ=>exact o.elim
  | ex c=>rw [z] at o; exact λH' ex _=>o H' (ex.same λ_ z=>z)
  | bad=>rw [z] at o; exact o.elim
 ·exact o.elim
theorem ve (F:HasDef K mg x st ps) (S:aD N ps (ah st)) (hps:ps.length<=N.length)
  (hbody:∀ (f:Addr) (cdv:Value) (A:Around) (outer:List Env) (s:Shared) (H:Hp) (E:XK),bI k (A.deeper (envOfC x (ah st) s.heap.objs.size f cdv))->mH (fT (dF P w) P w K mg base N x (ah st) f cdv A outer s H E) E false (c9 st) m):
  Callee P w K mg base (dF P w) x (k+1) ps (ic K mg (aV N.length ps.length m)):=by
 have len:∀ vs H Q E,ic K mg (aV N.length ps.length m) vs H Q E->vs.length = ps.length:=λvs H Q E ⟨Z,τ,ds,h1,h0,h2,h3⟩=>by
  unfold aV at h3
  split at h3
  ·rename_i hl; rw [h2.len]; exact hl
  ·exact h3.elim
 refine F.Ee S len λf cdv A outer s H vs Q E hr ⟨Z,τ,ds,h1,h0,h2,h3⟩=>?_
 have hl:=len vs H Q E ⟨Z,τ,ds,h1,h0,h2,h3⟩
 exact ⟨_,hbody f cdv A outer s H E hr,Z,λ_=>False,aE N.length τ ds,oN h1 h0 h2 (by rw [←h2.len,hl]; exact hps),Ap h3⟩
def oX (K:W.Frag):Sp:=λvs H Q _=>∃ (a:Addr) (ns:List Int),vs = [.ref a]/\BA H/\cR K H a (ns.map V.int)/\ns.length<=63/\∀ H',Q (.bl true) H'
end
theorem EX {l:PySem.W.OpenLaw} {q:Program} {loose:List Str} {XP:(Str->Option Value)->Heap->Prop} {YP:World->Heap->Prop} {d:DefRec} {K:Params->W.Frag} (k:Nat) {x:Str} {st:Stmt} (hn:l.most = some 63) (hdf:d.params.defaults = [])
  (hr:bI k callerA) (hY:∀ (w:World) (h:Heap),YP w h->(K w.params).In h)
  (F:∀ (w:World) (mg:Str->Option Value) (h:Heap),(K w.params).In h->h.Ns mainGlobals mg->HasDef (K w.params) mg d.name st [x]/\
   ∀ (f:Addr) (fd:FuncData) (base:Heap),qI (K w.params) d.name d.name st f fd->dG l.prog w (K w.params) mg base tO k f fd [x] (oX (K w.params))):
  PySem.W.WalkO q loose XP YP l.row.toRowW d [] (λf vs=>PySem.call f vs):=by
 refine L2.Iw (n:=63) (k:=k) (x:=x) (CX:=λ_=>tO) (sp:=λw=>oX (K w.params)) hn (by decide) hdf hr hY (λw mg fa h KX G hmg=>?_) (λ_ _ a ns hl hO hS=>⟨a,ns,rfl,hO,hS,hl,λ_=>rfl⟩) λ_ _ _ _ _ z=>z
 obtain ⟨⟨f,fd,h1,h2,h3⟩,h4⟩:=F w mg h KX G
 have e:=hmg.symm.trans h1
 cases e
 exact ⟨fd,λs u=>.of_eq (h3 [u] rfl),λbase _ _=>h4 fa fd base h2⟩
def kh (F:List Nat) (ρ:Ev):Ev:=F.foldl (λs i=>s.set i none) ρ
theorem aM.drop {K:W.Frag} {B P:Addr->Prop} {ρ:Ev} {σ:St} {H:Hp} (r:aM K B P ρ σ H) (i:Nat):aM K B P (ρ.set i none) (σ.set i none) H:=by
 have get:∀ (j:Nat) c,(ρ.set i none)[j]? = some (some c)->i≠j/\ρ[j]? = some (some c):=λj c e=>by
  rcases av e with ⟨_,q⟩ | ⟨n,q⟩
  ·cases q
  ·exact ⟨n,q⟩
 refine ⟨by simp [r.len],r.old,λj d e=>?_,λj l e=>?_,λj l e=>?_,λj k l l' p e1 e2 h1 h2=>?_,r.ob,λj l p e h1=>?_⟩
 ·obtain ⟨n,q⟩:=get j _ e
  obtain ⟨v,h1,h2⟩:=r.vs j d q
  exact ⟨v,by rw [List.getElem?_set_ne n]; exact h1,h2⟩
 ·obtain ⟨n,q⟩:=get j _ e
  obtain ⟨p,xs,h1,h2⟩:=r.bs j l q
  exact ⟨p,xs,by rw [List.getElem?_set_ne n]; exact h1,h2⟩
 ·obtain ⟨n,q⟩:=get j _ e
  obtain ⟨p,xs,h1,h2⟩:=r.ms j l q
  exact ⟨p,xs,by rw [List.getElem?_set_ne n]; exact h1,h2⟩
 ·obtain ⟨n1,q1⟩:=get j _ e1
  obtain ⟨n2,q2⟩:=get k _ e2
  rw [List.getElem?_set_ne n1] at h1
  rw [List.getElem?_set_ne n2] at h2
  exact r.inj j k l l' p q1 q2 h1 h2
 ·obtain ⟨n,q⟩:=get j _ e
  rw [List.getElem?_set_ne n] at h1
  exact r.bo j l p q h1
theorem aM.forget {K:W.Frag} {B P:Addr->Prop} {H:Hp}:∀ (F:List Nat) {ρ:Ev} {σ:St},aM K B P ρ σ H->aM K B P (kh F ρ) (L2.forget F σ) H
 | [],_,_,r=>r
 | i::F,ρ,σ,r=>aM.forget F (r.drop i)
section
variable {X:Cx} {E:XK} {q:Bool} {x:Str} {np pos:Pos} {b₀:Stmt} {suite body:List Stmt} {rest:List ExceptHandler} {sub:Str->Str->Option Bool} {mh mb:MS} {hs:List (Str×MS)} {h₀:ExceptHandler} {F:List Nat}
theorem v5.imp (h:v5 X l t) (hi:∀ c D σ H,t' c D σ H->t c D σ H):v5 X l t':=λea cls pins s σ H D I q=>h ea cls pins s σ H D I (hi _ D σ H q)
end
end L2
end
section
namespace L2
open PySem PySem.Spec PyProof.Rows
def BY (ms:MA) (n:Nat):Prop:=∀ ρ l,ms ρ = .ok l->l.length = n
theorem dN:BY ai 0:=λρ l h=>by cases h; rfl
theorem aU (h:BY ms n):BY (aa m ms) (n+1):=λρ l e=>by
 unfold aa at e
 cases z:m ρ with
 | ok x=>
   rw [z] at e
   change ((ms ρ).bind λl=>Rs.ok (x::l)) = _ at e
   cases z2:ms ρ with
   | ok r=>rw [z2] at e; cases e; simp [h ρ r z2]
   | ex c=>rw [z2] at e; cases e
   | bad=>rw [z2] at e; cases e
 | ex c=>rw [z] at e; cases e
 | bad=>rw [z] at e; cases e
theorem eV (h:BY ms n) (hn:n<=sizeLine):Mn ms:=λρ l e=>by rw [h ρ l e]; exact hn
section
variable {X:Cx} {E:XK} {K:W.Frag} {a b c e:Expr} {es:List Expr} {ma mb mc m:ME} {ms:MA} {mt mu:MT} {pos p2 p:Pos} {x:Str} {q:Bool}
def dL (n:Int) (g:Int->Int->Int):Dv->Rs Dv
 | .int i=>.ok (.int (g i n))
 | _=>.bad
theorem Bm (h:PE X e t) (ht:∀ σ H Q,cL n (λi j=>.int (g i j)) (lE X.K X.mg E m) σ H Q->t σ H Q):DE X E e (m1 (dL n g) m):=h.imp λσ H Q ⟨B,P,ρ,r,o⟩=>ht σ H Q ⟨B,P,ρ,r,o.bind λd H1 _ s1 o1 v hv=>by
 cases d with
 | int i=>rw [show v = _ from hv]; exact o1.ok _ rfl
 | _=>exact o1.elim⟩
abbrev cU (n:Int):Dv->Rs Dv:=dL n λi j=>i % j
abbrev ig (n:Int):Dv->Rs Dv:=dL n λi j=>i / j
abbrev iU (n:Int):Dv->Rs Dv:=dL n λi j=>i * j
theorem dM (ha:DB X E a m) (hn:0 < n:=by decide):DE X E (.BinOp a .Mod (.Constant (.int n) k p2) pos) (m1 (cU n) m):=Bm (KP ha hn) λ_ _ _ h=>h
theorem kT (ha:DB X E a m) (hn:0 < n/\n < 1073741824:=by decide):DE X E (.BinOp a .FloorDiv (.Constant (.int n) k p2) pos) (m1 (ig n) m):=Bm (Jz ha hn) λ_ _ _ h=>h
theorem oy (ha:DB X E a m) (hn:-(2 ^ 64) < n/\n < 2 ^ 64:=by decide):DE X E (.BinOp a .Mult (.Constant (.int n) k p2) pos) (m1 (iU n) m):=Bm (MI ha hn) λ_ _ _ h=>h
theorem F6 (h:wG mg x v) (hr:∀ Z H,Rp K Z H d v):fF K mg x d:=⟨v,h,hr⟩
def md:Dv->Bool
 | .str z=>decide (z.length<=sizeLine)
 | .tup _=>false | .lst _=>false | .seq _=>false | .ob _=>false | .exc _=>false | _=>true
theorem uU (f:md d = true):Rp K Z H d (toV d):=by
 cases d with
 | str z=>exact ⟨rfl,of_decide_eq_true f⟩
 | tup _=>cases f
 | lst _=>cases f
 | seq _=>cases f
 | ob _=>cases f
 | exc _=>cases f
 | _=>rfl
theorem xI:∀ {l:List Dv},l.all md = true->a7 K Z H l (l.map toV)
 | [],_=>rfl
 | d::r,f=>by
   rw [List.all_cons,Bool.and_eq_true] at f
   exact ⟨_,_,rfl,uU f.1,xI f.2⟩
def xM (K:W.Frag) (a:Addr) (l:List Dv):Prop:=∃ (o:Obj) (its:Array Value) (n:Nat),K.lookup a = some o/\o.cls = .type "tuple"/\o.data = .seq its n/\its.size<=sizeLine/\Vals (l.map toV) its.toList/\l.all md = true/\l.length<=sizeLine
theorem xM.rp {l:List Dv} {a:Addr} (h:xM K a l):∀ Z H,Rp K Z H (.tup l) (.ref a):=λZ H=>by
 obtain ⟨o,its,n,h1,h2,h3,h4,h5,h6,h7⟩:=h
 exact ⟨a,_,rfl,.inr ⟨o,its,n,h1,h2,h3,h4,h5⟩,h7,xI h6⟩
theorem Jk {l:List Dv} {a:Addr} {dd:Option Addr} {its:Array Value} {n:Nat} {sl:Array (Option Value)} (h:K.lookup a = some ⟨.type "tuple",dd,.seq its n,sl⟩) (hs:its.size<=sizeLine) (r:Vals (l.map toV) its.toList) (f:l.all md = true) (hl:l.length<=sizeLine):xM K a l:=
 ⟨_,its,n,h,rfl,rfl,hs,r,f,hl⟩
theorem BK {mg:Str->Option Value} {h:Heap} {l:List Dv} {ad:Addr} (Y:K.In h) (G:h.Ns mainGlobals mg) (a:PySem.W.nsIn K mainGlobals x = some (some (.ref ad))) (t:xM K ad l):fF K mg x (.tup l):=
 ⟨.ref ad,⟨_,PySem.W.mg_of Y G a,rfl⟩,t.rp⟩
def pe (K:W.Frag) (w:World) (mg:Str->Option Value) (x:Str) (kvs:List (Str×Dv)):Prop:=∃ vs:List V,gn K w mg x (List.zip (kvs.map (·.1)) vs)/\vs.length = kvs.length/\∀ Z H,a7 K Z H (kvs.map (·.2)) vs
theorem nJ (k:Str):∀ {kvs:List (Str×Dv)} {vs:List V},vs.length = kvs.length->a7 K Z H (kvs.map (·.2)) vs->(match kvs.lookup k,(List.zip (kvs.map (·.1)) vs).lookup k with
  | none,none=>True
  | some d,some v=>Rp K Z H d v
  | _,_=>False)
 | [],vs,hl,h=>by
   have:vs = []:=h
   subst this
   trivial
 | (y,d)::r,vs,hl,⟨v,vr,e,h1,h2⟩=>by
   subst e
   have ih:=nJ (kvs:=r) k (by simpa using hl) h2
   show (match List.lookup k ((y,d)::r),List.lookup k ((y,v)::List.zip (r.map (·.1)) vr) with
    | none,none=>True
    | some d,some v=>Rp K Z H d v
    | _,_=>False)
   by_cases hk:k = y
   ·subst hk
    rw [List.lookup_cons_self,List.lookup_cons_self]
    exact h1
   ·have hb:(k == y) = false:=by simpa using hk
    rw [List.lookup_cons,List.lookup_cons,hb]
    exact ih
def BQ (neg:Bool) (kvs:List (Str×Dv)):Dv->Rs Dv
 | .str k=>.ok (.bl (xor neg (kvs.lookup k).isSome))
 | _=>.bad
def BG (kvs:List (Str×Dv)):Dv->Rs Dv
 | .str k=>match kvs.lookup k with
   | some d=>.ok d
   | none=>.bad
 | _=>.bad
theorem Ld (hl:vs.length = kvs.length) (hr:∀ Z H,a7 X.K Z H (kvs.map (·.2)) vs) (h:tD X.K X.mg E (m1 (BQ neg kvs) m) σ H Q):MK neg (List.zip (kvs.map (·.1)) vs) (lE X.K X.mg E m) σ H Q:=by
 obtain ⟨B,P,ρ,r,o⟩:=h
 refine ⟨B,P,ρ,r,o.bind λd H1 _ s1 o1 v hv=>?_⟩
 cases d with
 | str k=>
   rw [show v = _ from hv.1]
   have hz:=nJ (K:=X.K) (Z:=λ_=>False) (H:=H) k hl (hr _ _)
   show Q (.bl (xor neg ((List.zip (kvs.map (·.1)) vs).lookup k).isSome)) H1
   have h1:=o1.ok _ rfl
   split at hz
   ·rename_i a b; rw [b]; rw [a] at h1; exact h1
   ·rename_i a b; rw [b]; rw [a] at h1; exact h1
   ·exact hz.elim
 | _=>exact o1.elim
theorem MV (D:pe X.K X.w X.mg x kvs) (hy:DB X E y m) (hg:Gl X x:=by rfl) (hdb:(x == ("__debug__":Str)) = false:=by decide):DT X E (.Compare y [if neg then .NotIn else .In] [.Name x p] pos) (mT (m1 (BQ neg kvs) m)):=by
 obtain ⟨vs,h1,h2,h3⟩:=D
 exact (Nb h1 hy hg hdb).imp λσ H Q h=>sT (λQ h=>Ld h2 h3 h) h
theorem N7 (D:pe X.K X.w X.mg x kvs) (hy:DB X E y m) (hs:jj y:=by intro _ _; rfl) (hg:Gl X x:=by rfl) (hdb:(x == ("__debug__":Str)) = false:=by decide):DE X E (.Subscript (.Name x p) y pos) (m1 (BG kvs) m):=by
 obtain ⟨vs,h1,h2,h3⟩:=D
 refine (Cj h1 hy hs hg hdb).imp λσ H Q ⟨B,P,ρ,r,o⟩=>⟨B,P,ρ,r,o.bind λd H1 _ s1 o1 v hv=>?_⟩
 cases d with
 | str k=>
   rw [show v = _ from hv.1]
   have hz:=nJ (K:=X.K) (Z:=ZU B P) (H:=H1) k h2 (h3 _ _)
   unfold BG at o1
   dsimp only at o1 ⊢
   split at hz
   ·rename_i a b; rw [a] at o1; exact o1.elim
   ·rename_i dd vv a b; rw [b]; rw [a] at o1; exact o1.ok _ hz
   ·exact hz.elim
 | _=>exact o1.elim
theorem CN (D:gn K w mg x (List.zip (kvs.map (·.1)) vs)) (hl:vs.length = kvs.length) (hr:∀ Z H,a7 K Z H (kvs.map (·.2)) vs):pe K w mg x kvs:=⟨vs,D,hl,hr⟩
def FnAt (P:Program) (w:World) (K:W.Frag) (mg:Str->Option Value) (base:Heap) (j:Nat) (v:V) (f:DF):Prop:=∃ fa fd ps,v = .ref fa/\PySem.W.keepIn K (.ref fa) = true/\Binds K fd ps []/\dG P w K mg base (dF P w) j fa fd ps (ic K mg f)
theorem kd (C:Callee P w K mg base (dF P w) x j ps (ic K mg f)) (hj:j<=j'):FnAt P w K mg base j' (.ref (aR mg x)) f:=by
 obtain ⟨fa,fd,h1,h2,h3,h4⟩:=C
 have e:aR mg x = fa:=by unfold aR; rw [h1]
 rw [e]
 exact ⟨fa,fd,ps,rfl,h2,h3,λvs H Q E q=>h4.len vs H Q E q,λA outer s H args us vs Q E hr=>h4.run A outer s H args us vs Q E (hr.mono hj)⟩
def BW (P:Program) (w:World) (K:W.Frag) (mg:Str->Option Value) (base:Heap) (j:Nat):List (Str×V)->List (Str×DF)->Prop
 | [],[]=>True
 | (k,v)::r,(k',f)::rs=>k = k'/\FnAt P w K mg base j v f/\BW P w K mg base j r rs
 | _,_=>False
theorem BW.find (k:Str):∀ {kvs:List (Str×V)} {fs:List (Str×DF)},BW P w K mg base j kvs fs->∀ f,fs.lookup k = some f->∃ v,kvs.lookup k = some v/\FnAt P w K mg base j v f
 | [],[],_,f,h=>by cases h
 | [],_::_,h,_,_=>h.elim
 | _::_,[],h,_,_=>h.elim
 | (y,v)::r,(y',g)::rs,⟨e,h1,h2⟩,f,hf=>by
   subst e
   by_cases hk:k = y
   ·subst hk
    rw [List.lookup_cons_self] at hf ⊢
    cases hf
    exact ⟨v,rfl,h1⟩
   ·have hb:(k == y) = false:=by simpa using hk
    rw [List.lookup_cons,hb] at hf
    rw [List.lookup_cons,hb]
    exact BW.find k h2 f hf
def km (fs:List (Str×DF)) (y:ME) (a:MA):ME:=λρ=>(y ρ).bind λd=>match d with
 | .str k=>match fs.lookup k with
   | some f=>(a ρ).bind (f ρ.t)
   | none=>.bad
 | _=>.bad
end
end L2
end
section
namespace L2
open PySem PySem.Spec PyProof.Rows
section
theorem CH (hit:s.heap.IsTupleIter it t i) (ht:s.heap.IsTuple t items) (hx:items[i]? = some x)
  (k:∀ h',h'.IsTupleIter it t (i+1)->Heap.SameBut it s.heap h'->Q x { s with heap:=h' }):wpAny (model prog w) A (Builtin.SmallTypes.nextOf (.ref it)) Q E s:=by
 obtain ⟨oI,gI,cI,dI⟩:=id hit
 obtain ⟨oT,gT,_,nT,dT⟩:=ht
 unfold Builtin.SmallTypes.nextOf
 refine wpAny_bind (wpAny_callSpecial?_slot (name:=Str.ofString "__next__") hit.typeIs PySem.F.slot_tuple_iterator_next (wpAny_call_entry PySem.F.slot_tuple_iterator_next hit.typeIs PySem.F.entry_tuple_iterator_next ?_ (PySem.F.args_tuple_iterator_next_1 _)))
 show wpAny _ _ (field (.ref it) 0 >>= _) _ _ s; refine wpAny_bind (wpAny_field gI dI (x:=.ref t) rfl ?_)
 show wpAny _ _ (if (Value.ref t == Value.none) = true then _ else _) _ _ s; rw [if_neg (show ¬((Value.ref t == Value.none) = true) from Bool.false_ne_true)]
 show wpAny _ _ (field (.ref it) 1 >>= _) _ _ s; refine wpAny_bind (wpAny_field gI dI (x:=.int i 0) rfl ?_)
 show wpAny _ _ (seqItems? (.ref t) >>= _) _ _ s; refine wpAny_bind (wpAny_seqItems gT dT ?_)
 simp only [Int.toNat_natCast,hx]
 refine wpAny_bind (wpAny_setField gI dI (by simp) (wpAny_pure ⟨x,rfl,wpAny_pure (k _ ?_ (Heap.SameBut.update ..))⟩))
 exact ⟨_,Heap.get?_update_self _ gI (Obj.isFreed_of_fields (Obj.data_mapFields dI _)),(Obj.cls_mapFields ..).trans cI,by rw [Obj.data_mapFields dI]; simp [rawInt]⟩
theorem Eo (hh:A.handled = none) (hit:s.heap.IsTupleIter it t i) (ht:s.heap.IsTuple t items) (hx:items[i]? = none)
  (k:∀ h' e,Heap.ExtBut it s.heap h'->(∃ o,h'.get? e = some o/\o.cls = .type "StopIteration")->E (.ref e) { s with heap:=h' }):wpAny (model prog w) A (Builtin.SmallTypes.nextOf (.ref it)) Q E s:=by
 obtain ⟨oI,gI,cI,dI⟩:=id hit
 obtain ⟨oT,gT,_,nT,dT⟩:=ht
 unfold Builtin.SmallTypes.nextOf
 refine wpAny_bind (wpAny_callSpecial?_slot (name:=Str.ofString "__next__") hit.typeIs PySem.F.slot_tuple_iterator_next (wpAny_call_entry PySem.F.slot_tuple_iterator_next hit.typeIs PySem.F.entry_tuple_iterator_next ?_ (PySem.F.args_tuple_iterator_next_1 _)))
 show wpAny _ _ (field (.ref it) 0 >>= _) _ _ s; refine wpAny_bind (wpAny_field gI dI (x:=.ref t) rfl ?_)
 show wpAny _ _ (if (Value.ref t == Value.none) = true then _ else _) _ _ s; rw [if_neg (show ¬((Value.ref t == Value.none) = true) from Bool.false_ne_true)]
 show wpAny _ _ (field (.ref it) 1 >>= _) _ _ s; refine wpAny_bind (wpAny_field gI dI (x:=.int i 0) rfl ?_)
 show wpAny _ _ (seqItems? (.ref t) >>= _) _ _ s; refine wpAny_bind (wpAny_seqItems gT dT ?_)
 simp only [Int.toNat_natCast,hx]
 refine wpAny_bind (wpAny_rule (wpAny_bind (wpAny_setField gI dI (by simp) ?_)))
 show wpAny _ _ (newExc (.type "StopIteration") [] >>= _) _ _ _; refine wpAny_bind ?_
 simp only [newExc,newTuple]
 refine wpAny_bind (wpAny_newObj_type ?_ (by size_fits)); refine wpAny_bind (m:=firstArgMember _ _) (wpAny_of_eq (a:=Value.none) (by first | rfl | (simp only [firstArgMember]; rfl)) ?_)
 refine wpAny_newObj_type ?_ (by size_fits); simp only [raiseNew]; refine wpAny_bind (wpAny_handled ?_)
 first | rw [show A.in1.handled = none from hh] | rw [hh]
 refine wpAny_bind (wpAny_pure (wpAny_throw ?_)); exact k _ _ (((Heap.SameBut.update ..).extBut.push _).push _) ⟨_,Heap.get?_push_size _ rfl,rfl⟩
structure j3 (prog:Program) (w:World) (it src:Addr) (xs:Array Value) (St:Nat->Heap->Prop):Prop where
 item:∀ (A:Around) (E:Value->Shared->Prop) (s:Shared) (k:Nat) (x:Value) (Q:Value->Shared->Prop),St k s.heap->xs[k]? = some x->(∀ h',St (k+1) h'->Heap.SameBut it s.heap h'->Q x { s with heap:=h' })->wpAny (model prog w) A (Builtin.SmallTypes.nextOf (.ref it)) Q E s
 done:∀ (A:Around) (E:Value->Shared->Prop) (s:Shared) (k:Nat) (Q:Value->Shared->Prop),A.handled = none->St k s.heap->xs[k]? = none->
  (∀ h' e,Heap.ExtBut it s.heap h'->(∃ o,h'.get? e = some o/\o.cls = .type "StopIteration")->E (.ref e) { s with heap:=h' })->wpAny (model prog w) A (Builtin.SmallTypes.nextOf (.ref it)) Q E s
 keep:∀ (k:Nat) (h h':Heap),St k h->(∀ o,h.get? it = some o->h'.get? it = some o)->(∀ o,h.get? src = some o->h'.get? src = some o)->St k h'
 obj:∀ (k:Nat) (h:Heap),St k h->∃ o,h.get? it = some o/\∀ v,o.data≠.cell v
abbrev Oy (it l:Addr) (xs:Array Value):Nat->Heap->Prop:=λk h=>h.IsListIter it l k/\h.IsList l xs
abbrev Om (it l:Addr) (xs:Array Value):Nat->Heap->Prop:=λk h=>h.IsTupleIter it l k/\h.IsTuple l xs
theorem OM (hne:l≠it):j3 prog w it l xs (Oy it l xs) where
 item:=λA E s k x Q st hx q=>wpAny_nextOf_list_item st.1 st.2 hx λh' i' sb=>q h' ⟨i',st.2.extBut sb.extBut hne⟩ sb
 done:=λA E s k Q hh st hx q=>wpAny_nextOf_list_end hh st.1 st.2 hx q
 keep:=λk h h' st k1 k2=>⟨st.1.at k1,st.2.at k2⟩
 obj:=λk h st=>by
  obtain ⟨o,e,_,d⟩:=st.1
  exact ⟨o,e,λv z=>by rw [d] at z; cases z⟩
theorem Pn (hne:l≠it):j3 prog w it l xs (Om it l xs) where
 item:=λA E s k x Q st hx q=>CH st.1 st.2 hx λh' i' sb=>q h' ⟨i',st.2.extBut sb.extBut hne⟩ sb
 done:=λA E s k Q hh st hx q=>Eo hh st.1 st.2 hx q
 keep:=λk h h' st k1 k2=>by
  obtain ⟨⟨o,e,r⟩,⟨o',e',r'⟩⟩:=st
  exact ⟨⟨o,k1 o e,r⟩,⟨o',k2 o' e',r'⟩⟩
 obj:=λk h st=>by
  obtain ⟨o,e,_,d⟩:=st.1
  exact ⟨o,e,λv z=>by rw [d] at z; cases z⟩
theorem j3.but {it src:Addr} {xs:Array Value} {St:Nat->Heap->Prop} (U:j3 prog w it src xs St) {k:Nat} {h h':Heap} {b:Addr} (st:St k h) (e:Heap.ExtBut b h h') (h1:it≠b) (h2:src≠b):St k h':=
 U.keep k h h' st (λo q=>e _ o h1 q) λo q=>e _ o h2 q
theorem Dn {z TI TO i1 i2 l1 l2:Addr} {k:Nat} {xs ys:Array Value} {x y a b:Value} {S1 S2:Nat->Heap->Prop} {Q:Option Value->Shared->Prop} (D:ZipApart z TI TO i1 i2 l1 l2) (U1:j3 prog w i1 l1 xs S1) (U2:j3 prog w i2 l2 ys S2)
  (hz:IsZip s.heap z TI TO .none) (hTI:IsPair s.heap TI (.ref i1) (.ref i2)) (hTO:IsPair s.heap TO a b) (h1:S1 k s.heap) (h2:S2 k s.heap) (hx:xs[k]? = some x) (hy:ys[k]? = some y)
  (q:∀ h',IsZip h' z TI TO (rawInt s.heap.objs.size)->IsPair h' TO x y->S1 (k+1) h'->S2 (k+1) h'->IsPair h' s.heap.objs.size x y->
   (∀ c o,c≠z->c≠TO->c≠i1->c≠i2->s.heap.get? c = some o->h'.get? c = some o)->Q (some (.ref s.heap.objs.size)) { s with heap:=h' }):
  wpAny (model prog w) A (pyNext (.ref z)) Q E s:=by
 have hT:s.TypeIs (.ref z) "zip":=⟨_,hz,rfl⟩
 unfold pyNext
 refine wpAny_bind (wpAny_attempt (wpAny_callSpecial?_slot (name:=Str.ofString "__next__") hT PySem.F.slot_zip_next (wpAny_call_entry PySem.F.slot_zip_next hT PySem.F.entry_zip_next ?_ (PySem.F.args_zip_next_1 _))))
 show wpAny _ _ (field (.ref z) 2 >>= _) _ _ _; refine wpAny_bind (wpAny_field hz rfl (x:=.bool false) rfl ?_)
 show wpAny _ _ (field (.ref z) 3 >>= _) _ _ _; refine wpAny_bind (wpAny_field hz rfl (x:=.ref TI) rfl ?_); refine wpAny_bind (wpAny_seqItems hTI rfl ?_)
 show wpAny _ _ (Builtin.SmallTypes.ownedTupleIsFree (.ref z) >>= _) _ _ _; refine wpAny_bind ?_; unfold Builtin.SmallTypes.ownedTupleIsFree
 refine wpAny_bind (wpAny_field hz rfl (x:=.none) rfl (wpAny_pure ?_)); simp only [if_true]; refine wpAny_bind (wpAny_rule ?_)
 refine wpAny_bind (wpAny_field hz rfl (x:=.ref TO) rfl ?_); refine wpAny_bind (wpAny_setField_rec hz (by simp) λg1 z1 e1=>?_)
 replace z1:IsZip g1 z TI TO .ellipsis:=z1
 refine wpAny_bind ?_; simp only [List.zipIdx_cons,List.zipIdx_nil,List.forIn_cons,List.forIn_nil]
 refine wpAny_bind (wpAny_bind (wpAny_onRaise ?_)); show wpAny _ _ (Builtin.SmallTypes.nextOf (.ref i1) >>= _) _ _ _
 refine wpAny_bind (U1.item _ _ _ k x _ (U1.but h1 e1.extBut D.i1z D.l1z) hx λg2 s2 e2=>wpAny_pure ?_)
 have t2:IsPair g2 TO a b:=e2.extBut _ _ D.TOi1 (e1.extBut _ _ D.TOz hTO)
 refine wpAny_bind (wpAny_seqItems t2 rfl ?_); refine wpAny_bind (wpAny_updateSeq_pair t2 λg3 t3 e3=>?_)
 replace t3:IsPair g3 TO x b:=t3
 refine wpAny_bind (wpAny_letGo (wpAny_pure ?_)); refine wpAny_bind (wpAny_bind (wpAny_onRaise ?_)); show wpAny _ _ (Builtin.SmallTypes.nextOf (.ref i2) >>= _) _ _ _
 have h2':S2 k g3:=U2.but (U2.but (U2.but h2 e1.extBut D.i2z D.l2z) e2.extBut D.i12.symm D.l2i1) e3.extBut D.TOi2.symm D.l2TO
 refine wpAny_bind (U2.item _ _ _ k y _ h2' hy λg4 s4 e4=>wpAny_pure ?_)
 have t4:IsPair g4 TO x b:=e4.extBut _ _ D.TOi2 t3
 refine wpAny_bind (wpAny_seqItems t4 rfl ?_); refine wpAny_bind (wpAny_updateSeq_pair t4 λg5 t5 e5=>?_)
 replace t5:IsPair g5 TO x y:=t5
 refine wpAny_bind (wpAny_letGo (wpAny_pure (wpAny_pure ?_))); refine wpAny_bind (wpAny_seqItems t5 rfl ?_); refine wpAny_bind (wpAny_newTuple ?_)
 have sz:g5.objs.size = s.heap.objs.size:=by rw [e5.1,e4.1,e3.1,e2.1,e1.1]
 have z5:IsZip g5 z TI TO .ellipsis:=e5.extBut _ _ D.TOz.symm (e4.extBut _ _ D.i2z.symm (e3.extBut _ _ D.TOz.symm (e2.extBut _ _ D.i1z.symm z1)))
 have k5:∀ c o,c≠z->c≠TO->c≠i1->c≠i2->s.heap.get? c = some o->g5.get? c = some o:=λc o c1 c2 c3 c4 e=>e5.extBut _ _ c2 (e4.extBut _ _ c4 (e3.extBut _ _ c2 (e2.extBut _ _ c3 (e1.extBut _ _ c1 e))))
 have s15:S1 (k+1) g5:=U1.but (U1.but (U1.but s2 e3.extBut D.TOi1.symm D.l1TO) e4.extBut D.i12 D.l1i2) e5.extBut D.TOi1.symm D.l1TO
 have s25:S2 (k+1) g5:=U2.but s4 e5.extBut D.TOi2.symm D.l2TO
 have zl:z < g5.objs.size:=Heap.lt_size z5
 show wpAny _ _ (Builtin.SmallTypes.ownedTupleHandOut (.ref z) (.ref g5.objs.size) >>= _) _ _ _; refine wpAny_bind ?_; unfold Builtin.SmallTypes.ownedTupleHandOut
 have z6:IsZip (g5.push { cls:=.type "tuple",data:=.seq #[x,y] }) z TI TO .ellipsis:=Heap.get?_push_of_some _ z5
 refine wpAny_bind (wpAny_setField_rec z6 (by simp) λg7 z7 e7=>?_)
 replace z7:IsZip g7 z TI TO (rawInt g5.objs.size):=z7
 refine wpAny_setField_rec z7 (by simp) λg8 z8 e8=>?_
 replace z8:IsZip g8 z TI TO (rawInt g5.objs.size):=z8
 have up:∀ c o,c≠z->g5.get? c = some o->g8.get? c = some o:=λc o c1 e=>e8.extBut _ _ c1 (e7.extBut _ _ c1 (Heap.get?_push_of_some _ e))
 have T8:IsPair g8 g5.objs.size x y:=e8.extBut _ _ (Nat.ne_of_gt zl) (e7.extBut _ _ (Nat.ne_of_gt zl) (Heap.get?_push_size _ rfl))
 rw [sz] at z8 T8
 refine wpAny_pure ⟨_,rfl,?_⟩
 show wpAny _ _ _ _ _ _
 refine wpAny_pure ?_
 show Q (some (.ref g5.objs.size)) _
 rw [sz]
 exact q g8 z8 (up _ _ D.TOz t5) (U1.keep _ _ _ s15 (λo e=>up _ o D.i1z e) λo e=>up _ o D.l1z e) (U2.keep _ _ _ s25 (λo e=>up _ o D.i2z e) λo e=>up _ o D.l2z e) T8 λc o c1 c2 c3 c4 e=>up c o c1 (k5 c o c1 c2 c3 c4 e)
theorem GV {z TI TO i1 i2 l1 l2:Addr} {k:Nat} {xs ys:Array Value} {a b:Value} {S1 S2:Nat->Heap->Prop} {Q:Option Value->Shared->Prop} (hh:A.handled = none) (D:ZipApart z TI TO i1 i2 l1 l2) (U1:j3 prog w i1 l1 xs S1) (U2:j3 prog w i2 l2 ys S2)
  (hz:IsZip s.heap z TI TO .none) (hTI:IsPair s.heap TI (.ref i1) (.ref i2)) (hTO:IsPair s.heap TO a b) (h1:S1 k s.heap) (h2:S2 k s.heap) (hend:xs[k]? = none\/ys[k]? = none)
  (q:∀ h',(∀ c o,c≠z->c≠TO->c≠i1->c≠i2->s.heap.get? c = some o->h'.get? c = some o)->Q none { s with heap:=h' }):wpAny (model prog w) A (pyNext (.ref z)) Q E s:=by
 have hT:s.TypeIs (.ref z) "zip":=⟨_,hz,rfl⟩
 have fin:∀ h' e,(∀ c o,c≠z->c≠TO->c≠i1->c≠i2->s.heap.get? c = some o->h'.get? c = some o)->(∃ o,h'.get? e = some o/\o.cls = .type "StopIteration")->wpAny (model prog w) A (do if ←isInstance (.ref e) (.type "StopIteration") then pure none else throw (.ref e)) Q E { s with heap:=h' }:=λh' e k ⟨o,ho,hc⟩=>by
  refine wpAny_bind (wpAny_isInstance (T:="StopIteration") (b:=true) ⟨o,ho,hc⟩ isSubtype_stop ?_)
  exact wpAny_pure (q _ k)
 unfold pyNext
 refine wpAny_bind (wpAny_attempt (wpAny_callSpecial?_slot (name:=Str.ofString "__next__") hT PySem.F.slot_zip_next (wpAny_call_entry PySem.F.slot_zip_next hT PySem.F.entry_zip_next ?_ (PySem.F.args_zip_next_1 _))))
 show wpAny _ _ (field (.ref z) 2 >>= _) _ _ _; refine wpAny_bind (wpAny_field hz rfl (x:=.bool false) rfl ?_)
 show wpAny _ _ (field (.ref z) 3 >>= _) _ _ _; refine wpAny_bind (wpAny_field hz rfl (x:=.ref TI) rfl ?_); refine wpAny_bind (wpAny_seqItems hTI rfl ?_)
 show wpAny _ _ (Builtin.SmallTypes.ownedTupleIsFree (.ref z) >>= _) _ _ _; refine wpAny_bind ?_; unfold Builtin.SmallTypes.ownedTupleIsFree
 refine wpAny_bind (wpAny_field hz rfl (x:=.none) rfl (wpAny_pure ?_)); simp only [if_true]; refine wpAny_bind (wpAny_rule ?_)
 refine wpAny_bind (wpAny_field hz rfl (x:=.ref TO) rfl ?_); refine wpAny_bind (wpAny_setField_rec hz (by simp) λg1 z1 e1=>?_)
 replace z1:IsZip g1 z TI TO .ellipsis:=z1
 refine wpAny_bind ?_; simp only [List.zipIdx_cons,List.zipIdx_nil,List.forIn_cons,List.forIn_nil]
 refine wpAny_bind (wpAny_bind (wpAny_onRaise ?_)); show wpAny _ _ (Builtin.SmallTypes.nextOf (.ref i1) >>= _) _ _ _
 cases hx:xs[k]? with
 | none=>
   refine wpAny_bind (U1.done _ _ _ k _ hh (U1.but h1 e1.extBut D.i1z D.l1z) hx λg2 e e2 he=>?_)
   obtain ⟨oe,ge,ce⟩:=he
   have z2:IsZip g2 z TI TO .ellipsis:=e2 _ _ D.i1z.symm z1
   have ez:e≠z:=λx=>by subst x; rw [z2] at ge; cases ge; simp at ce
   refine wpAny_setField_rec z2 (by simp) λg3 _ e3=>fin g3 e (λc o c1 _ c3 _ x=>e3.extBut _ _ c1 (e2 _ _ c3 (e1.extBut _ _ c1 x))) ⟨oe,e3.extBut _ _ ez ge,ce⟩
 | some x=>
   have hy:ys[k]? = none:=by rcases hend with h | h; rw [hx] at h; cases h; exact h
   refine wpAny_bind (U1.item _ _ _ k x _ (U1.but h1 e1.extBut D.i1z D.l1z) hx λg2 s2 e2=>wpAny_pure ?_)
   have t2:IsPair g2 TO a b:=e2.extBut _ _ D.TOi1 (e1.extBut _ _ D.TOz hTO)
   refine wpAny_bind (wpAny_seqItems t2 rfl ?_); refine wpAny_bind (wpAny_updateSeq_pair t2 λg3 t3 e3=>?_)
   refine wpAny_bind (wpAny_letGo (wpAny_pure ?_)); refine wpAny_bind (wpAny_bind (wpAny_onRaise ?_)); show wpAny _ _ (Builtin.SmallTypes.nextOf (.ref i2) >>= _) _ _ _
   have h2':S2 k g3:=U2.but (U2.but (U2.but h2 e1.extBut D.i2z D.l2z) e2.extBut D.i12.symm D.l2i1) e3.extBut D.TOi2.symm D.l2TO
   refine wpAny_bind (U2.done _ _ _ k _ hh h2' hy λg4 e e4 he=>?_)
   obtain ⟨oe,ge,ce⟩:=he
   have z4:IsZip g4 z TI TO .ellipsis:=e4 _ _ D.i2z.symm (e3.extBut _ _ D.TOz.symm (e2.extBut _ _ D.i1z.symm z1))
   have ez:e≠z:=λx=>by subst x; rw [z4] at ge; cases ge; simp at ce
   refine wpAny_setField_rec z4 (by simp) λg5 _ e5=>fin g5 e (λc o c1 c2 c3 c4 x=>e5.extBut _ _ c1 (e4 _ _ c4 (e3.extBut _ _ c2 (e2.extBut _ _ c3 (e1.extBut _ _ c1 x))))) ⟨oe,e5.extBut _ _ ez ge,ce⟩
end
end L2
end
section
namespace L2
open PySem PySem.Spec PyProof.Rows
abbrev fJ (T:String) (l:Addr):Obj:={ cls:=.type T,data:=.fields #[.ref l,.int 0 0] }
def rZ (prog:Program) (w:World) (T:String) (src:Addr) (C:Heap->Prop):Prop:=∀ (A:Around) (E:Value->Shared->Prop) (s:Shared) (Q:Value->Shared->Prop),C s.heap->Q (.ref s.heap.objs.size) { s with heap:=s.heap.push (fJ T src) }->wpAny (model prog w) A (pyIter (.ref src)) Q E s
abbrev G7 (h:Heap) (T1 T2:String) (l1 l2:Addr):Heap:=(h.push (fJ T1 l1)).push (fJ T2 l2)
abbrev Hf (h:Heap) (T1 T2:String) (l1 l2:Addr):Heap:=(G7 h T1 T2 l1 l2).push { cls:=.type "tuple",data:=.seq #[.ref h.objs.size,.ref (h.push (fJ T1 l1)).objs.size] }
abbrev G4 (h:Heap) (T1 T2:String) (l1 l2:Addr):Heap:=(Hf h T1 T2 l1 l2).push { cls:=.type "tuple",data:=.seq #[.none,.none] }
abbrev xo (h:Heap) (T1 T2:String) (l1 l2:Addr):Heap:=(G4 h T1 T2 l1 l2).push { cls:=.type "zip",data:=.fields #[.none,.bool false,.bool false,.ref (G7 h T1 T2 l1 l2).objs.size,.ref (Hf h T1 T2 l1 l2).objs.size] }
theorem Gs (T1 T2:String) (l1 l2:Addr) (C1 C2:Heap->Prop) (I1:∀ prog w,rZ prog w T1 l1 C1) (I2:∀ prog w,rZ prog w T2 l2 C2):
  Meets (Builtin.«zip.__new__» ⟨[.type "zip",.ref l1,.ref l2],[]⟩) (λ_ R s=>C1 s.heap/\C2 (s.heap.push (fJ T1 l1))/\R (.ok (.ret (.ref (G4 s.heap T1 T2 l1 l2).objs.size))) { s with heap:=xo s.heap T1 T2 l1 l2 }):=
 .of_wp λprog w A R s h=>by
  obtain ⟨hp,g,d,tk,os⟩:=s; obtain ⟨c1,c2,h⟩:=h
  have hsub:=sub_zip
  have J1:∀ {A:Around} {E:Value->Shared->Prop} {Q:Value->Shared->Prop},Q (.ref hp.objs.size) ⟨hp.push (fJ T1 l1),g,d,tk,os⟩->wpAny (model prog w) A (pyIter (.ref l1)) Q E ⟨hp,g,d,tk,os⟩:=λ{A E Q} q=>I1 prog w A E ⟨hp,g,d,tk,os⟩ Q c1 q
  have J2:∀ {A:Around} {E:Value->Shared->Prop} {Q:Value->Shared->Prop},Q (.ref (hp.push (fJ T1 l1)).objs.size) ⟨(hp.push (fJ T1 l1)).push (fJ T2 l2),g,d,tk,os⟩->wpAny (model prog w) A (pyIter (.ref l2)) Q E ⟨hp.push (fJ T1 l1),g,d,tk,os⟩:=λ{A E Q} q=>I2 prog w A E ⟨hp.push (fJ T1 l1),g,d,tk,os⟩ Q c2 q
  wp_walk using J1,J2
  exact ⟨_,rfl,h⟩
section
theorem EU (I1:∀ prog w,rZ prog w T1 l1 C1) (I2:∀ prog w,rZ prog w T2 l2 C2) (c1:C1 s.heap) (c2:C2 (s.heap.push (fJ T1 l1)))
  (k:∀ h',IsZip h' (s.heap.objs.size+4) (s.heap.objs.size+2) (s.heap.objs.size+3) .none->IsPair h' (s.heap.objs.size+2) (.ref s.heap.objs.size) (.ref (s.heap.objs.size+1))->
   IsPair h' (s.heap.objs.size+3) .none .none->h'.get? s.heap.objs.size = some (fJ T1 l1)->h'.get? (s.heap.objs.size+1) = some (fJ T2 l2)->h'.objs.size = s.heap.objs.size+5->
   (∀ c o,s.heap.get? c = some o->h'.get? c = some o)->Q (.ref (s.heap.objs.size+4)) { s with heap:=h' }):wpAny (model prog w) A (call (.type "zip") [.ref l1,.ref l2]) Q E s:=by
 refine callType_new PySem.F.called_zip (by decide) (PySem.F.typeCall_zip_2 _ _) (PySem.F.newCall_zip_2 _ _) (λobj=>PySem.F.args_object_init_3 obj _ _) PySem.F.entry_zip_new (Gs T1 T2 l1 l2 C1 C2 I1 I2) ⟨c1,c2,?_⟩
 have y1:(s.heap.push (fJ T1 l1)).objs.size = s.heap.objs.size+1:=Heap.size_push ..
 have y2:(G7 s.heap T1 T2 l1 l2).objs.size = s.heap.objs.size+2:=by rw [Heap.size_push,y1]
 have y3:(Hf s.heap T1 T2 l1 l2).objs.size = s.heap.objs.size+3:=by rw [Heap.size_push,y2]
 have y4:(G4 s.heap T1 T2 l1 l2).objs.size = s.heap.objs.size+4:=by rw [Heap.size_push,y3]
 have y5:(xo s.heap T1 T2 l1 l2).objs.size = s.heap.objs.size+5:=by rw [Heap.size_push,y4]
 have up:∀ {h:Heap} {c:Addr} {o:Obj} (o':Obj),h.get? c = some o->(h.push o').get? c = some o:=λo' e=>Heap.get?_push_of_some o' e
 have g5:(xo s.heap T1 T2 l1 l2).get? (G4 s.heap T1 T2 l1 l2).objs.size = some _:=Heap.get?_push_size _ rfl
 have g4:(xo s.heap T1 T2 l1 l2).get? (Hf s.heap T1 T2 l1 l2).objs.size = some _:=up _ (Heap.get?_push_size _ rfl)
 have g3:(xo s.heap T1 T2 l1 l2).get? (G7 s.heap T1 T2 l1 l2).objs.size = some _:=up _ (up _ (Heap.get?_push_size _ rfl))
 have g2:(xo s.heap T1 T2 l1 l2).get? (s.heap.push (fJ T1 l1)).objs.size = some _:=up _ (up _ (up _ (Heap.get?_push_size _ rfl)))
 have g1:(xo s.heap T1 T2 l1 l2).get? s.heap.objs.size = some _:=up _ (up _ (up _ (up _ (Heap.get?_push_size _ rfl))))
 show _/\_
 rw [y2,y3,y4] at g5
 rw [y1,y2] at g3
 rw [y3] at g4
 rw [y1] at g2
 rw [y4]
 exact ⟨⟨_,g5,rfl⟩,k _ g5 g3 g4 g1 g2 y5 λc o x=>up _ (up _ (up _ (up _ (up _ x))))⟩
end
def jh (b:Bool) (K:W.Frag) (H:Hp) (a:Addr) (xs:List V):Prop:=match b with
 | true=>cR K H a xs
 | false=>dz K H a xs
abbrev Hw (b:Bool):String:=if b then "list_iterator" else "tuple_iterator"
def Dp (b:Bool) (it l:Addr) (xs:Array Value):Nat->Heap->Prop:=match b with
 | true=>Oy it l xs
 | false=>Om it l xs
def CK (b:Bool) (l:Addr) (xs:Array Value):Heap->Prop:=match b with
 | true=>λh=>h.IsList l xs
 | false=>λh=>h.IsTuple l xs
theorem Am (b:Bool) (l:Addr) (xs:Array Value):∀ prog w,rZ prog w (Hw b) l (CK b l xs):=λprog w A E s Q c q=>by
 cases b with
 | true=>exact wpAny_pyIter_list (show s.heap.IsList l xs from c) q
 | false=>exact wpAny_pyIter_tuple (show s.heap.IsTuple l xs from c) q
theorem wK (b:Bool) (hne:l≠it):j3 prog w it l xs (Dp b it l xs):=by
 cases b with
 | true=>exact OM hne
 | false=>exact Pn hne
theorem Ge (e:h.get? it = some (fJ (Hw b) l)) (c:CK b l xs h):Dp b it l xs 0 h:=by
 cases b with
 | true=>exact ⟨⟨_,e,rfl,rfl⟩,c⟩
 | false=>exact ⟨⟨_,e,rfl,rfl⟩,c⟩
theorem CK.keeps (c:CK b l xs h) (k:∀ o,h.get? l = some o->h'.get? l = some o):CK b l xs h':=by
 cases b with
 | true=>exact Heap.IsList.at c k
 | false=>obtain ⟨o,e,r⟩:=c; exact ⟨o,k o e,r⟩
section
theorem Inv.rz (I:Inv X pins σ H s) (h:jh b X.K H a xs):∃ its:List Value,Vals xs its/\CK b a its.toArray s.heap:=by
 cases b with
 | true=>obtain ⟨its,r,p,_⟩:=I.list h; exact ⟨its,r,p.isList⟩
 | false=>obtain ⟨its,r,p,_⟩:=I.tuple h; exact ⟨its,r,p⟩
theorem Inv.xl (I:Inv X pins σ H s) (h:jh b X.K H a xs) (h':jh b X.K H a ys):xs = ys:=by
 cases b with
 | true=>exact I.rH h h'
 | false=>exact I.vk h h'
theorem Inv.p8 {t':Nat} {h':Heap} {fp:List Addr} (I:Inv X pins σ H s) (k:∀ b o,b∉fp->s.heap.get? b = some o->h'.get? b = some o) (hf:∀ b∈fp,nY X pins H b):Inv X pins σ H { s with heap:=h',toks:=t' }:=by
 have nit:∀ b u,H b = some u->b∉fp:=λb u e z=>by rw [(hf b z).1] at e; cases e
 refine I.step (g':=s.gens) (d':=s.drawn) (ch:=fp) (λb hb=>?_) (λb o _ _ hc e _=>k b o hc e) (λb o _ _ hc e _=>⟨o.slots,k b o hc e⟩) (λ_ _ _ _ n=>n) (λb o hc e=>⟨o,k b o hc e⟩) (λ_ _ e=>e) (λ_ _ _ e=>e) (λb ps e=>⟨#[],by rw [e]; simp⟩) (λm hm=>?_) (λb u e=>?_) I.bare
 ·obtain ⟨_,f1,_,f3,f4,f5⟩:=hf b hb
  exact ⟨f3,f1,f4,f5⟩
 ·obtain ⟨o,es,ep,ho,r⟩:=hm
  exact ⟨o,es,ep,k _ o (λz=>(hf _ z).2.1 rfl) ho,r⟩
 ·refine (I.bt b u e).nP (λc v hc q=>k c v ?_ q) (λ_ q=>q) λ_ _ q=>q
  rcases hc with z | z
  ·rw [z]; exact nit b u e
  ·exact nit c _ z
end
def K7 (K:W.Frag) (b1 b2:Bool) (a1 a2:Addr):It:=
 ⟨λi H=>∃ xs ys x y,jh b1 K H a1 xs/\jh b2 K H a2 ys/\xs[i]? = some x/\ys[i]? = some y,
  λi H v H'=>∃ p x y,H p = none/\v = .ref p/\H' = upd H p (.tup [x,y])/\(∀ xs,jh b1 K H a1 xs->xs[i]? = some x)/\∀ ys,jh b2 K H a2 ys->ys[i]? = some y,
  λi H=>∃ xs ys,jh b1 K H a1 xs/\jh b2 K H a2 ys/\(xs.length<=i\/ys.length<=i)⟩
def qK (b:Bool) (h:Heap) (it l:Addr) (i:Nat):Prop:=match b with
 | true=>h.IsListIter it l i
 | false=>h.IsTupleIter it l i
theorem qK.st (x:qK b h it l i) (c:CK b l xs h):Dp b it l xs i h:=by
 cases b with
 | true=>exact ⟨x,c⟩
 | false=>exact ⟨x,c⟩
theorem tI (x:Dp b it l xs i h):qK b h it l i:=by
 cases b with
 | true=>exact x.1
 | false=>exact x.1
theorem qK.obj (x:qK b h it l i):∃ o,h.get? it = some o/\∀ v,o.data≠.cell v:=by
 cases b with
 | true=>obtain ⟨o,e,_,d⟩:=x; exact ⟨o,e,λv z=>by rw [d] at z; cases z⟩
 | false=>obtain ⟨o,e,_,d⟩:=x; exact ⟨o,e,λv z=>by rw [d] at z; cases z⟩
theorem qK.at (x:qK b h it l i) (k:∀ o,h.get? it = some o->h'.get? it = some o):qK b h' it l i:=by
 cases b with
 | true=>obtain ⟨o,e,r⟩:=x; exact ⟨o,k o e,r⟩
 | false=>obtain ⟨o,e,r⟩:=x; exact ⟨o,k o e,r⟩
abbrev PY (b1 b2:Bool) (z TI TO i1 i2 l1 l2:Addr):Nat->Heap->Prop:=λi h=>IsZip h z TI TO .none/\IsPair h TI (.ref i1) (.ref i2)/\(∃ a b,IsPair h TO a b)/\qK b1 h i1 l1 i/\qK b2 h i2 l2 i
theorem GF {P:Program} {w:World} {K:W.Frag} {es:List Expr} {kt:Nat} {pt:Pos} (b1 b2:Bool) (z TI TO i1 i2 l1 l2:Addr) (D:ZipApart z TI TO i1 i2 l1 l2):
  Turn P w K (.Tuple es kt pt) (K7 K b1 b2 l1 l2) [z,TI,TO,i1,i2] z (PY b1 b2 z TI TO i1 i2 l1 l2) where
 mem:=by simp
 obj:=λi h st b hb=>by
  obtain ⟨hz,hTI,⟨a,c,hTO⟩,h1,h2⟩:=st
  simp only [List.mem_cons,List.not_mem_nil,or_false] at hb
  rcases hb with rfl | rfl | rfl | rfl | rfl
  ·exact ⟨_,hz,λv z=>nomatch z⟩
  ·exact ⟨_,hTI,λv z=>nomatch z⟩
  ·exact ⟨_,hTO,λv z=>nomatch z⟩
  ·exact h1.obj
  ·exact h2.obj
 keep:=λi h h' st k=>by
  obtain ⟨hz,hTI,⟨a,c,hTO⟩,h1,h2⟩:=st
  exact ⟨k z (by simp) _ hz,k TI (by simp) _ hTI,⟨a,c,k TO (by simp) _ hTO⟩,h1.at (k i1 (by simp)),h2.at (k i2 (by simp))⟩
 item:=by
  intro X hP hw hK hc i pins s σ H E I hf st hg
  subst hP hw hK
  obtain ⟨xs,ys,x,y,q1,q2,gx,gy⟩:=hg
  obtain ⟨its1,r1,c1⟩:=I.rz q1
  obtain ⟨its2,r2,c2⟩:=I.rz q2
  obtain ⟨ux,hux,rx⟩:=r1.get gx
  obtain ⟨uy,huy,ry⟩:=r2.get gy
  obtain ⟨hz,hTI,⟨a,c,hTO⟩,h1,h2⟩:=st
  have lts:∀ b∈[z,TI,TO,i1,i2],b < s.heap.objs.size:=λb hb=>by
   simp only [List.mem_cons,List.not_mem_nil,or_false] at hb
   rcases hb with rfl | rfl | rfl | rfl | rfl
   ·exact Heap.lt_size hz
   ·exact Heap.lt_size hTI
   ·exact Heap.lt_size hTO
   ·obtain ⟨o,e,_⟩:=h1.obj; exact Heap.lt_size e
   ·obtain ⟨o,e,_⟩:=h2.obj; exact Heap.lt_size e
  refine Dn D (wK b1 D.l1i1) (wK b2 D.l2i2) hz hTI hTO (h1.st c1) (h2.st c2) (x:=ux) (y:=uy) (by simpa using hux) (by simpa using huy) λh' a1 a2 a3 a4 a5 hk=>?_
  refine ⟨_,rfl,wpAny_letOwnedTupleGo_zip (s:={ s with heap:=h' }) a1 λh2' z2 e2=>?_⟩
  have I0:Inv X pins σ (upd H s.heap.objs.size (.tup [x,y])) { s with heap:=s.heap.push { cls:=.type "tuple",data:=.seq #[ux,uy] } }:=
   I.laid (t':=s.toks) (λb u e=>Heap.get?_push_of_some _ e) (Nat.le_refl _) ⟨by show 2<=sizeLine; decide,[ux,uy],.cons rx (.cons ry .nil),⟨_,Heap.get?_push_size _ rfl,rfl,_,rfl⟩⟩
  have zl:z < s.heap.objs.size:=lts z (by simp)
  have free:∀ b∈[z,TI,TO,i1,i2],upd H s.heap.objs.size (.tup [x,y]) b = none:=λb hb=>by
   rw [aZ (Nat.ne_of_lt (lts b hb))]; exact (hf b hb).1
  have I1:Inv X pins σ (upd H s.heap.objs.size (.tup [x,y])) { s with heap:=h2' }:=by
   refine Inv.p8 (s:={ s with heap:=s.heap.push { cls:=.type "tuple",data:=.seq #[ux,uy] } }) (h':=h2') (t':=s.toks) (fp:=[z,TI,TO,i1,i2]) I0 (λb o hb e=>?_) (λb hb=>⟨free b hb,(hf b hb).2⟩)
   have nz:b≠z:=λq=>hb (by simp [q])
   rcases Heap.get?_push_cases e with ⟨rfl,rfl⟩ | e
   ·exact e2.extBut _ _ nz a5
   ·exact e2.extBut _ _ nz (hk b o nz (λq=>hb (by simp [q])) (λq=>hb (by simp [q])) (λq=>hb (by simp [q])) e)
  refine ⟨.ref s.heap.objs.size,_,I1,rfl,⟨_,x,y,I.fresh,rfl,rfl,λxs' h=>?_,λys' h=>?_⟩,⟨z2,e2.extBut _ _ D.TIz (hk _ _ D.TIz D.TITO D.TIi1 D.TIi2 hTI),⟨_,_,e2.extBut _ _ D.TOz a2⟩,(tI a3).at λo e=>e2.extBut _ _ D.i1z e,(tI a4).at λo e=>e2.extBut _ _ D.i2z e⟩,free⟩
  ·rw [I.xl h q1]; exact gx
  ·rw [I.xl h q2]; exact gy
 done:=by
  intro X hP hw hK hc i pins s σ H E I hf st hg
  subst hP hw hK
  obtain ⟨xs,ys,q1,q2,hl⟩:=hg
  obtain ⟨its1,r1,c1⟩:=I.rz q1
  obtain ⟨its2,r2,c2⟩:=I.rz q2
  have n1:=r1.length
  have n2:=r2.length
  obtain ⟨hz,hTI,⟨a,c,hTO⟩,h1,h2⟩:=st
  refine GV (I.ok.hd hc) D (wK b1 D.l1i1) (wK b2 D.l2i2) hz hTI hTO (h1.st c1) (h2.st c2) ?_ λh' hk=>⟨rfl,I.p8 (fp:=[z,TI,TO,i1,i2]) (t':=s.toks) (λb o hb e=>hk b o (λq=>hb (by simp [q])) (λq=>hb (by simp [q])) (λq=>hb (by simp [q])) (λq=>hb (by simp [q])) e) hf⟩
  rcases hl with hl | hl
  ·exact .inl (by simp; omega)
  ·exact .inr (by simp; omega)
 self:=λ_ _ _ _ _ st h=>wpAny_pyIter_zip st.1 h
section
def OO (K:W.Frag) (ta:TA):TI:=λσ H R=>ta σ H λvs H1=>match vs with
 | [.ref l1,.ref l2]=>∃ b1 b2 xs ys,jh b1 K H1 l1 xs/\jh b2 K H1 l2 ys/\R (K7 K b1 b2 l1 l2) H1
 | _=>False
theorem Nk (hm:X.mg "zip" = none) (ha:PA X [a,b] t) (hs:isStar a = false) (hs2:isStar b = false) (hg:Gl X "zip"):PI X (.Tuple es kt pt) (.Call (.Name "zip" p) [a,b] [] pos) (OO X.K t):=by
 intro pins s σ H R I h
 have e1:starEach [a,b] X.env = [(false,eval a X.env),(false,eval b X.env)]:=by rw [b5 hs,b5 hs2]; rfl
 have e2:starEach [b] X.env = [(false,eval b X.env)]:=by rw [b5 hs2]; rfl
 refine Call_ (kR I hg hm PyProof.Rows.boot_zip (PyProof.Rows.callWith_type1 (aW (ha pos pins s σ H _ I h) λus s1 ⟨vs,H1,I1,r1,q1⟩=>?_) (by rw [e1,e2]) (by rw [e2]; rfl)))
 dsimp only at q1
 split at q1
 ·rename_i l1 l2
  obtain ⟨b1,b2,xs,ys,g1,g2,q⟩:=q1
  cases r1 with
  | cons r rr=>
    cases rr with
    | cons r' rr=>
      cases rr
      cases r
      cases r'
      obtain ⟨its1,v1,c1⟩:=I1.rz g1
      obtain ⟨its2,v2,c2⟩:=I1.rz g2
      have lt1:l1 < s1.heap.objs.size:=by
       cases b1 with
       | true=>obtain ⟨o,e,_⟩:=c1; exact Heap.lt_size e
       | false=>obtain ⟨o,e,_⟩:=c1; exact Heap.lt_size e
      have lt2:l2 < s1.heap.objs.size:=by
       cases b2 with
       | true=>obtain ⟨o,e,_⟩:=c2; exact Heap.lt_size e
       | false=>obtain ⟨o,e,_⟩:=c2; exact Heap.lt_size e
      refine EU (Am b1 l1 its1.toArray) (Am b2 l2 its2.toArray) c1 (c2.keeps λo e=>Heap.get?_push_of_some _ e) λh' hz hTI hTO hi1 hi2 hsz hk=>?_
      refine wpAny_pyIter_zip hz ?_
      have D:=zipApart_new lt1 lt2
      refine ⟨_,_,_,_,H1,rfl,I1.kept (t':=s1.toks) hk,GF b1 b2 _ _ _ _ _ l1 l2 D,⟨hz,hTI,⟨_,_,hTO⟩,tI (Ge hi1 (c1.keeps λo e=>hk _ o e)),tI (Ge hi2 (c2.keeps λo e=>hk _ o e))⟩,λb hb=>?_,q⟩
      have up:s1.heap.objs.size<=b:=by
       simp only [List.mem_cons,List.not_mem_nil,or_false] at hb
       rcases hb with rfl | rfl | rfl | rfl | rfl <;> omega
      exact I1.rj up (I1.bt.fresh up)
 ·exact q1.elim
def nG (l l':List Dv):List Dv:=List.zipWith (λa b=>.tup [a,b]) l l'
def jB:Dv->Option (List Dv)
 | .lst l=>some l
 | .tup l=>some l
 | _=>none
def Gf (a b:ME):MA:=λρ=>(a ρ).bind λx=>(b ρ).bind λy=>match jB x,jB y with
 | some l,some l'=>.ok (nG l l')
 | _,_=>.bad
theorem JQ {K:W.Frag} {Z:Addr->Prop} {H:Hp} {d:Dv} {l:List Dv} {v:V} (hv:gq K Z H d v) (h:jB d = some l):∃ b a xs,v = .ref a/\jh b K H a xs/\l.length<=sizeLine/\a7 K Z H l xs/\∀ H',aK H H'->jh b K H' a xs:=by
 cases d with
 | lst l0=>
   cases h
   obtain ⟨a,xs,rfl,h1,h2,h3⟩:=hv
   exact ⟨true,a,xs,rfl,h1.sq,h2,h3,λH' s=>(s.rd h1).sq⟩
 | tup l0=>
   cases h
   obtain ⟨a,xs,rfl,h1,h2,h3⟩:=hv
   exact ⟨false,a,xs,rfl,h1,h2,h3,λH' s=>s.tup h1⟩
 | _=>cases h
theorem A3 {K:W.Frag} {Z:Addr->Prop} {H:Hp} {d:Dv} {l:List Dv} {v:V} (hv:Rp K Z H d v) (h:jB d = some l):∃ b a xs,v = .ref a/\jh b K H a xs/\l.length<=sizeLine/\a7 K Z H l xs/\∀ H',Ext Z H H'->jh b K H' a xs:=by
 cases d with
 | lst l0=>
   cases h
   obtain ⟨a,xs,rfl,h1,h2,h3⟩:=hv
   exact ⟨true,a,xs,rfl,h1.rd.sq,h2,h3,λH' e=>(e.vT (λ_ z=>z) h1).rd.sq⟩
 | tup l0=>
   cases h
   obtain ⟨a,xs,rfl,h1,h2,h3⟩:=hv
   exact ⟨false,a,xs,rfl,h1,h2,h3,λH' e=>e.Ib h1⟩
 | _=>cases h
theorem LW {K:W.Frag} {Z:Addr->Prop} {q:Bool} {H0:Hp} {b1 b2:Bool} {l1 l2:Addr} {xs ys:List V} {ds ds':List Dv} (h1:∀ H,Ext Z H0 H->(q = true->aK H0 H)->jh b1 K H l1 xs) (h2:∀ H,Ext Z H0 H->(q = true->aK H0 H)->jh b2 K H l2 ys)
  (r1:a7 K Z H0 ds xs) (r2:a7 K Z H0 ds' ys):JW K Z q (K7 K b1 b2 l1 l2) H0 (nG ds ds'):=by
 intro Zi i H hz hx hq
 refine ⟨λd e=>?_,λhl=>?_⟩
 ·unfold nG at e
  rw [List.getElem?_zipWith] at e
  cases z1:ds[i]? with
  | none=>rw [z1] at e; cases e
  | some d1=>
    cases z2:ds'[i]? with
    | none=>rw [z1,z2] at e; cases e
    | some d2=>
      rw [z1,z2] at e
      cases e
      obtain ⟨x,gx,rx⟩:=r1.get z1
      obtain ⟨y,gy,ry⟩:=r2.get z2
      refine ⟨⟨xs,ys,x,y,h1 H hx hq,h2 H hx hq,gx,gy⟩,λv H' ⟨p,x',y',hp,hv,hH,u1,u2⟩=>?_⟩
      subst hv hH
      have ex:=u1 xs (h1 H hx hq)
      rw [gx] at ex
      cases ex
      have ey:=u2 ys (h2 H hx hq)
      rw [gy] at ey
      cases ey
      have sm:aK H (upd H p (.tup [x,y])):=(aK.refl _).upd hp
      refine ⟨sm,p,[x,y],rfl,dz.of bj,by show 2<=sizeLine; decide,?_⟩
      have on:∀ {d v},Rp K Z H0 d v->Rp K Zi (upd H p (.tup [x,y])) d v:=λ{d v} h3=>by
       have h4:Rp K (λa=>Z a\/Zi a) H0 d v:=h3.weak λa z=>z.elim .inl (hz a)
       exact ((h4.mono hx λa z=>.inl z).weak λa z=>.inl (.inr z)).same sm
      exact ⟨x,[y],rfl,on rx,y,[],rfl,on ry,rfl⟩
 ·refine ⟨xs,ys,h1 H hx hq,h2 H hx hq,?_⟩
  unfold nG at hl
  rw [List.length_zipWith] at hl
  rw [r1.len,r2.len]
  omega
theorem Gw (h:l.length<=sizeLine):(nG l l').length<=sizeLine:=by
 unfold nG
 rw [List.length_zipWith]
 omega
theorem Kq {q:Bool} (hm:X.mg "zip" = none) (ha:DE X E a ma) (hb:DE X E b mb) (hs:isStar a = false:=by rfl) (hs2:isStar b = false:=by rfl) (hg:Gl X "zip":=by rfl):DI X E q (.Tuple es kt pt) (.Call (.Name "zip" p) [a,b] [] pos) (Gf ma mb):=
 (Nk hm (d6 ha (d6 hb dm hs2) hs) hs hs2 hg).imp λσ H R ⟨B,P,ρ,r,o⟩=>⟨B,P,ρ,r,o.bind λd H1 _ s1 o1 v hv=>⟨B,P,ρ,r.same s1,o1.bind λd' H2 _ s2 o2 v' hv'=>by
  cases z1:jB d with
  | none=>rw [z1] at o2; exact o2.elim
  | some l=>
    cases z2:jB d' with
    | none=>rw [z1,z2] at o2; exact o2.elim
    | some l'=>
      rw [z1,z2] at o2
      obtain ⟨b1,a1,xs,rfl,g1,g2,g3,g4⟩:=A3 (hv.same s2) z1
      obtain ⟨b2,a2,ys,rfl,k1,k2,k3,k4⟩:=A3 hv' z2
      exact ⟨b1,b2,xs,ys,g1,k1,o2.ok _ (LW (λH' e _=>g4 H' e) (λH' e _=>k4 H' e) g3 k3) (Gw g2)⟩⟩⟩
end
end L2
end
section
namespace L2
open PySem PySem.Spec PyProof.Rows
def iX (acc:List Str) (x:Str):List Str:=if acc.any (·== x) then acc else acc++[x]
def dR (l:List Str):List Str:=l.foldl iX []
theorem CT (acc:List Str) (v k:Str):(iX acc v).any (·== k) = (acc.any (·== k) || decide (k = v)):=by
 unfold iX
 by_cases h:acc.any (·== v) = true
 ·rw [if_pos h]
  by_cases e:k = v
  ·subst e; rw [h]; simp
  ·simp [e]
 ·rw [if_neg h,List.any_append]
  by_cases e:k = v
  ·subst e; simp
  ·have hb:(v == k) = false:=by simpa using λz:v = k=>e z.symm
   simp [hb,e]
theorem vK (acc:List Str) (v:Str):(iX acc v).length = if acc.any (·== v) then acc.length else acc.length+1:=by
 unfold iX
 split <;> simp
theorem vI (l:List Str) (i:Nat) (v:Str) (h:l[i]? = some v):dR (l.take (i+1)) = iX (dR (l.take i)) v:=by
 unfold dR
 rw [List.take_add_one,h,List.foldl_append]
 rfl
theorem G3:∀ (l:List Str),(dR l).length<=l.length:=by
 have key:∀ (l acc:List Str),(l.foldl iX acc).length<=acc.length+l.length:=by
  intro l
  induction l with
  | nil=>intro acc; simp
  | cons x r ih=>
    intro acc
    have h1:=ih (iX acc x)
    have h2:=vK acc x
    simp only [List.foldl_cons,List.length_cons]
    split at h2 <;> omega
 intro l
 have:=key l []
 simpa [dR] using this
section
variable {prog:Program} {w:World} {A:Around} {R:Result->Shared->Prop} {I:Addr} {fp wr:List Addr} {G:Array GenState->Array GenState->Prop} {Pv:Nat->Value->Prop} {St:Nat->Shared->Prop}
theorem D9 (W:WalksS prog w A.in1 I fp wr G xs.length Pv St) (S:Addr) (hSf:S∉fp) (hval:∀ i v,Pv i v->∃ x t,xs[i]? = some x/\v = .str x t) (hb:xs.length+1 < scanBound):
  ∀ (k i:Nat) (s:Shared),xs.length - i = k->i<=xs.length->St i s->s.heap.SetOf (PySem.strKind prog w) S (λk'=>(dR (xs.take i)).any (·== k')) (dR (xs.take i)).length->
    (∀ s',Moved (S::wr) G s s'->s'.heap.SetOf (PySem.strKind prog w) S (λk'=>(dR xs).any (·== k')) (dR xs).length->R (.ok (.ret .none)) s')->codeAny (model prog w) A (.builtin "set.update.loop" ⟨[.ref S,.ref I],[]⟩) R s:=by
 have nS:S∉wr:=λh=>hSf (W.sub _ h)
 have sb:∀ b∈wr,b∈S::wr:=λb hb=>List.mem_cons_of_mem _ hb
 intro k
 induction k with
 | zero=>
   intro i s hk hi hst hS hR
   have ei:i = xs.length:=by omega
   subst ei
   refine codeAny_builtin PyProof.Rows.F.entry_set_update_loop ?_; rw [Around.under_plainId PyProof.Rows.F.plain_set_update_loop _]
   show wpAny _ A.in1 (pyNext (.ref I) >>= _) _ _ s; refine wpAny_bind (W.done s _ _ hst λs' hm=>?_)
   show wpAny _ A.in1 (ret Value.none) _ _ s'; refine wpAny_pure (hR s' (hm.mono sb) ?_)
   rw [List.take_length] at hS
   obtain ⟨o,es,ep,t,ho,r⟩:=hS
   exact ⟨o,es,ep,t,hm.heap S _ nS ho,r⟩
 | succ k ih=>
   intro i s hk hi hst hS hR
   have hlt:i < xs.length:=by omega
   refine codeAny_builtin PyProof.Rows.F.entry_set_update_loop ?_; rw [Around.under_plainId PyProof.Rows.F.plain_set_update_loop _]
   show wpAny _ A.in1 (pyNext (.ref I) >>= _) _ _ s; refine wpAny_bind (W.item i s _ _ hlt hst λv s' hP hst' hm=>?_)
   obtain ⟨x,t,hx,rfl⟩:=hval i v hP
   have hS1:s'.heap.SetOf (PySem.strKind prog w) S (λk'=>(dR (xs.take i)).any (·== k')) (dR (xs.take i)).length:=by
    obtain ⟨o,es,ep,tb,ho,r⟩:=hS
    exact ⟨o,es,ep,tb,hm.heap S _ nS ho,r⟩
   show wpAny _ A.in1 (holding [Value.str x t] (setAdd S (.str x t)) >>= _) _ _ s'; refine wpAny_bind (wpAny_holding ?_)
   unfold setAdd
   refine wpAny_holding ?_; refine wpAny_bind ((PySem.strKind prog w).pyHash (k:=x) (strKind_is _ _ _ _) ?_)
   have room:(dR (xs.take i)).length+1 < scanBound:=by
    have h1:=G3 (xs.take i)
    have h2:(xs.take i).length<=xs.length:=by rw [List.length_take]; omega
    omega
   refine wpAny_setAddHashed_of (knd:=PySem.strKind prog w) (s:={ s' with toks:=s'.toks+1 }) (strKind_is _ _ _ _) rfl hS1 room λh' hsb hS2=>?_
   have hS3:h'.SetOf (PySem.strKind prog w) S (λk'=>(dR (xs.take (i+1))).any (·== k')) (dR (xs.take (i+1))).length:=
    SetOf_congr hS2 (λk'=>by rw [vI xs i x hx,CT]) (by rw [vI xs i x hx,vK])
   refine wpAny_pure ⟨plainId_quiet PyProof.Rows.F.plain_set_update_loop _,ih (i+1) _ (by omega) hlt (W.frame _ s' _ _ hst' (Nat.le_succ _) λb hb o e=>?_) hS3 λs'' hm'' hS''=>?_⟩
   ·rw [hsb.2 b (λz:b = S=>hSf (by rw [←z]; exact hb))]; exact e
   ·refine hR s'' (Moved.trans W.gtrans ((hm.mono sb).then_heap (Nat.le_succ _) λb o hb e=>?_) hm'') hS''
    rw [hsb.2 b (λz:b = S=>hb (by rw [z]; exact List.mem_cons_self))]; exact e
end
abbrev dS (led:Bool):Obj:={ cls:=.type "set",dict:=none,data:=.set #[] 0 (.fresh 0 0 led) }
theorem sub_tuple_set:isSubtype (.type "tuple") (.type "set") = pure false:=by rw [isSubtype_type]; kernel_rfl
theorem sub_tuple_frozenset:isSubtype (.type "tuple") (.type "frozenset") = pure false:=by rw [isSubtype_type]; kernel_rfl
section
variable {prog:Program} {w:World} {A:Around} {E:Value->Shared->Prop} {s:Shared}
theorem Kk (hh:A.handled = none) (b:Bool) (I l:Addr) (hne:l≠I) (items:Array Value):∃ wr,(∀ c∈wr,c = I)/\Walks prog w A I [I,l] wr items.size (λi v=>items[i]? = some v) (Dp b I l items):=by
 cases b with
 | true=>exact ⟨_,by simp,Walks.list hh I l hne items⟩
 | false=>exact ⟨_,by simp,Walks.tuple hh I l hne items⟩
theorem Ej (b:Bool) (hh:A.handled = none) (hl:CK b l items s.heap) (hi:∀ (i:Nat) v,items[i]? = some v->∃ x t,xs[i]? = some x/\v = .str x t) (hn:items.size = xs.length) (hb:xs.length+1 < scanBound)
  (h:∀ (h':Heap) (tk:Nat),h'.SetOf (PySem.strKind prog w) s.heap.objs.size (λk'=>(dR xs).any (·== k')) (dR xs).length->(∀ c o,c < s.heap.objs.size->s.heap.get? c = some o->h'.get? c = some o)->Q (.ref s.heap.objs.size) { s with heap:=h',toks:=tk }):
  wpAny (model prog w) A (call (.type "set") [.ref l]) Q E s:=by
 obtain ⟨c,tl,hmro⟩:=PySem.F.called_set.mro
 have hmade:=PySem.F.called_set.made
 have hsub:=PySem.F.called_set.sub
 refine wpAny_call (codeAny_of_tree ?_); show wpAny _ _ (callAny (.type "set") _) _ _ _
 refine wpAny_pure ⟨Code.quiet_builtin _ (by decide +kernel),codeAny_builtin PySem.F.entry_type_call ?_⟩; rw [Around.under_plain (weight_type_call_type "set" [.ref l] []) rfl]
 have h1:=PySem.F.called_set.notType
 have h2:=PySem.F.called_set.canCreate
 have hct:=PySem.F.typeCall_set_1 (.ref l)
 repeat (any_goals (first | assumption | wp_step))
 refine codeAny_mono (code_set_new_1 (.ref l) (E:=E) (Q₁:=λobj s₁=>∃ led:Bool,obj = .ref s.heap.objs.size/\s₁ = { s with heap:=s.heap.push (dS led) }) λled=>⟨led,rfl,rfl⟩) λr s₁ hr=>?_
 cases r with
 | error e=>exact hr
 | ok fl=>
   cases fl with
   | ret obj=>
     obtain ⟨led,rfl,rfl⟩:=hr
     have hS:(s.heap.push (dS led)).get? s.heap.objs.size = some (dS led):=Heap.get?_push_size _ rfl
     have hT:Shared.TypeIs { s with heap:=s.heap.push (dS led) } (.ref s.heap.objs.size) "set":=⟨_,hS,rfl⟩
     have hli:=PySem.F.called_set.init.lookup
     have hbi:=PySem.F.called_set.init.bind (.ref s.heap.objs.size)
     repeat (any_goals (first | assumption | wp_step))
     refine codeAny_mono (codeAny_call_builtin (R:=wants (λr s₂=>r = .none/\∃ h' tk,s₂ = { s with heap:=h',toks:=tk }/\h'.SetOf (PySem.strKind prog w) s.heap.objs.size (λk'=>(dR xs).any (·== k')) (dR xs).length/\
       (∀ c o,c < s.heap.objs.size->s.heap.get? c = some o->h'.get? c = some o)) E) PySem.F.called_set.init.plain PySem.F.entry_set_init (check_set_init_1 hT ?_)) λr₂ s₂ hr₂=>?_
     ·have cl:CK b l items (s.heap.push (dS led)):=hl.keeps λo e=>Heap.get?_push_of_some _ e
      have lS:l < s.heap.objs.size:=by
       cases b with
       | true=>obtain ⟨o,e,_⟩:=hl; exact Heap.lt_size e
       | false=>obtain ⟨o,e,_⟩:=hl; exact Heap.lt_size e
      have hh3:A.in1.in1.in1.handled = none:=by simp [hh]
      have neI:l≠(s.heap.push (dS led)).objs.size:=by rw [Heap.size_push]; exact Nat.ne_of_lt (Nat.lt_succ_of_lt lS)
      have nSf:s.heap.objs.size∉[(s.heap.push (dS led)).objs.size,l]:=by
       rw [Heap.size_push]
       simp only [List.mem_cons,List.mem_singleton,List.not_mem_nil,or_false,not_or]
       exact ⟨Nat.ne_of_lt (Nat.lt_succ_self _),Nat.ne_of_gt lS⟩
      have tail:∀ {A':Around},A'.in1.in1.handled = none->codeAny (model prog w) A'.in1 (.builtin "set.update.loop" ⟨[.ref s.heap.objs.size,.ref (s.heap.push (dS led)).objs.size],[]⟩) (λr s'=>r = .ok (.ret .none)/\∃ h' tk,s' = { s with heap:=h',toks:=tk }/\h'.SetOf (PySem.strKind prog w) s.heap.objs.size (λk'=>(dR xs).any (·== k')) (dR xs).length/\(∀ c o,c < s.heap.objs.size->s.heap.get? c = some o->h'.get? c = some o)) { s with heap:=(s.heap.push (dS led)).push (fJ (Hw b) l) }:=λ{A'} hh'=>by
       obtain ⟨wr,hwr,W⟩:=Kk (prog:=prog) (w:=w) (A:=A'.in1.in1) hh' b (s.heap.push (dS led)).objs.size l neI items
       have W2:=W.toS
       rw [hn] at W2
       refine D9 W2 s.heap.objs.size nSf hi hb (xs.length - 0) 0 _ rfl (Nat.zero_le _) ?_ ?_ ?_
       ·exact Ge (Heap.get?_push_size _ rfl) (cl.keeps λo e=>Heap.get?_push_of_some _ e)
       ·have hg:((s.heap.push (dS led)).push (fJ (Hw b) l)).get? s.heap.objs.size = some (dS led):=Heap.get?_push_of_some _ hS
        exact SetOf_congr ((setObjOf_fresh (knd:=PySem.strKind prog w) led).setOf hg (by unfold scanBound; omega)) (λ_=>rfl) rfl
       ·intro s' hm hS'
        obtain ⟨h',g',d',tk',os'⟩:=s'
        have eg:g' = s.gens:=hm.gens
        have ed:d' = s.drawn:=hm.drawn
        have eo:os' = s.os:=hm.os
        subst eg; subst ed; subst eo
        refine ⟨rfl,h',tk',rfl,hS',λc o hc e=>?_⟩
        refine hm.heap c o ?_ (Heap.get?_push_of_some _ (Heap.get?_push_of_some _ e))
        intro z
        rcases List.mem_cons.mp z with z | z
        ·exact absurd hc (by rw [z]; exact Nat.lt_irrefl _)
        ·rw [hwr c z,Heap.size_push] at hc
         omega
      cases b with
      | true=>
        obtain ⟨ol,hol,hcl,nl,hdl⟩:=hl
        obtain ⟨ocls,odict,odata,oslots⟩:=ol
        simp only at hcl hdl
        subst hcl; subst hdl
        have hol':(s.heap.push (dS led)).get? l = some { cls:=.type "list",dict:=odict,data:=.seq items nl,slots:=oslots }:=Heap.get?_push_of_some _ hol
        have hsls:=PySem.F.sub_list_set
        have hslf:=PySem.F.sub_list_frozenset
        have hne:(Value.type "list" == Value.type "dict") = false:=by decide
        unfold Builtin.«set.__init__» noKeywords Builtin.Frozenset.updateFrom
        generalize hPI:pyIter = PI
        wp_walk
        subst hPI
        refine wpAny_pyIter_list (show (s.heap.push (dS led)).IsList l items from ⟨_,hol',rfl,nl,rfl⟩) ?_; refine wpAny_bind (wpAny_runValue ?_)
        refine codeAny_mono (tail hh3) λr s' hq=>?_
        obtain ⟨rfl,h',tk',rfl,q1,q2⟩:=hq
        show wpAny _ _ _ _ _ _
        refine wpAny_pure ?_
        show wpAny _ _ (ret Value.none) _ _ _
        exact wpAny_pure ⟨rfl,h',tk',rfl,q1,q2⟩
      | false=>
        obtain ⟨ol,hol,hcl,nl,hdl⟩:=hl
        obtain ⟨ocls,odict,odata,oslots⟩:=ol
        simp only at hcl hdl
        subst hcl; subst hdl
        have hol':(s.heap.push (dS led)).get? l = some { cls:=.type "tuple",dict:=odict,data:=.seq items nl,slots:=oslots }:=Heap.get?_push_of_some _ hol
        have hsls:=sub_tuple_set
        have hslf:=sub_tuple_frozenset
        have hne:(Value.type "tuple" == Value.type "dict") = false:=by decide
        unfold Builtin.«set.__init__» noKeywords Builtin.Frozenset.updateFrom
        generalize hPI:pyIter = PI
        wp_walk
        subst hPI
        refine wpAny_pyIter_tuple (show (s.heap.push (dS led)).IsTuple l items from ⟨_,hol',rfl,nl,rfl⟩) ?_; refine wpAny_bind (wpAny_runValue ?_)
        refine codeAny_mono (tail hh3) λr s' hq=>?_
        obtain ⟨rfl,h',tk',rfl,q1,q2⟩:=hq
        show wpAny _ _ _ _ _ _
        refine wpAny_pure ?_
        show wpAny _ _ (ret Value.none) _ _ _
        exact wpAny_pure ⟨rfl,h',tk',rfl,q1,q2⟩
     ·cases r₂ with
      | error e=>exact hr₂
      | ok fl₂=>
        cases fl₂ with
        | ret r=>
          obtain ⟨rfl,h',tk,rfl,hS',hk'⟩:=hr₂
          repeat (any_goals (first | assumption | wp_step))
          exact h _ _ hS' hk'
        | _=>exact hr₂.elim
   | _=>exact hr.elim
end
end L2
end
section
namespace L2
open PySem PySem.Spec PyProof.Rows
def GB (P:Program) (w:World) (a:Addr) (ys:List Str):Heap->Prop:=λh=>h.SetOf (PySem.strKind P w) a (λk'=>(dR ys).any (·== k')) (dR ys).length
section
def Hi (P:Program) (w:World) (K:W.Frag):List V->Hp->VK->Prop:=λxs H Q=>match xs with
 | [.ref l]=>∃ b,∃ ys:List Str,jh b K H l (ys.map V.str)/\ys.length+1 < scanBound/\∀ d,H d = none->Q (.ref d) (upd H d (.ext (GB P w d ys)))
 | _=>False
theorem Gy (hc:X.calm = true):cq X (.type "set") (Hi X.prog X.w X.K):=by
 intro pins s σ H xs us Q I r h
 unfold Hi at h
 split at h
 ·obtain ⟨b,ys,h1,h2,h3⟩:=h
  obtain ⟨u,rfl,ru⟩:=vals1 r
  cases ru
  obtain ⟨its,rv,c⟩:=I.rz h1
  obtain ⟨l,rfl,el⟩:=vj rv
  have hn:(strValues l).toArray.size = ys.length:=by rw [List.size_toArray,←rv.length,List.length_map]
  refine Ej b (I.ok.hd hc) c (xs:=ys) (λi v hv=>?_) hn h2 λh' tk hS hk=>?_
  ·have hv':(strValues l)[i]? = some v:=by simpa using hv
   have hi:i < ys.length:=by
    have:=(List.getElem?_eq_some_iff.mp hv').1
    rw [←hn,List.size_toArray]; exact this
   have hy:(ys.map V.str)[i]? = some (.str ys[i]):=by simp [hi]
   obtain ⟨u,g1,t,g2⟩:=rv.get hy
   rw [hv'] at g1
   cases g1
   exact ⟨ys[i],t,by simp [hi],g2⟩
  ·refine ⟨.ref s.heap.objs.size,_,I.laid (t':=tk) (o:=.ext (GB X.prog X.w s.heap.objs.size ys)) (λc o e=>hk c o (Heap.lt_size e) e) (Nat.le_refl _) ⟨hS,?_,?_⟩,rfl,h3 _ I.fresh⟩
   ·obtain ⟨o,_,_,_,ho,_⟩:=hS
    exact ⟨o,ho⟩
   ·rintro h1 h2 ⟨o,es,ep,t,ho,r⟩ k
    exact ⟨o,es,ep,t,k o ho,r⟩
 ·exact h.elim
def Ii (P:Program) (w:World):List V->Hp->VK->Prop:=λxs H Q=>match xs with
 | [.ref d]=>∃ ys:List Str,H d = some (.ext (GB P w d ys))/\Q (.int (dR ys).length) H
 | _=>False
theorem EM:cq X (.builtin "len") (Ii X.prog X.w):=by
 intro pins s σ H xs us Q I r h
 unfold Ii at h
 split at h
 ·obtain ⟨ys,h1,h2⟩:=h
  obtain ⟨u,rfl,ru⟩:=vals1 r
  cases ru
  obtain ⟨⟨o,es,ep,t,ho,hex,hd,_,_,hlt,hf,hn⟩,_⟩:=I.bt _ _ h1
  refine call_len_set ho hex hd hf ?_ ⟨.int (dR ys).length,H,I.tok _,⟨_,by rw [hn]⟩,h2⟩
  have:scanBound<=2 ^ 63:=by unfold scanBound; decide
  omega
 ·exact h.elim
def mn (d:Dv):Rs Dv:=match jB d with
 | some l=>(match strsOf l with
   | some ys=>if ys.length+1 < scanBound then .ok (.int (dR ys).length) else .bad
   | none=>.bad)
 | none=>.bad
theorem Gi (hm:X.mg "len" = none) (hm2:X.mg "set" = none) (ha:DB X E a m) (hs:isStar a = false:=by rfl) (hc:X.calm = true:=by rfl) (hg:Gl X "len":=by rfl) (hg2:Gl X "set":=by rfl):
  DE X E (.Call (.Name "len" p) [.Call (.Name "set" p2) [a] [] pos2] [] pos) (m1 mn m):=
 (gJ EM hg hm PySem.boot_len (d6 (pC (Gy hc) hg2 hm2 (show bootBuiltins "set" = some (.type "set") by decide +kernel) (d6 ha dm hs) (by decide) (by decide) (b5 hs) (cu rfl)) dm rfl) (by decide) (by decide) (b5 rfl) (cu rfl)).imp λσ H Q ⟨B,P,ρ,r,o⟩=>
  ⟨B,P,ρ,r,o.bind λd H1 _ s1 o1 v hv=>by
    unfold mn at o1
    split at o1
    ·rename_i l hl
     split at o1
     ·rename_i ys hys
      split at o1
      ·rename_i hb
       obtain ⟨b,a,xs,rfl,g1,g2,g3,g4⟩:=JQ hv hl
       refine ⟨b,ys,by rw [←xW hys g3]; exact g1,hb,λq hq=>⟨ys,bj,?_⟩⟩
       exact o1 _ ((aK.refl _).upd hq) _ rfl
      ·exact o1.elim
     ·exact o1.elim
    ·exact o1.elim⟩
end
theorem Callee.more {P:Program} {w:World} {K:W.Frag} {mg:Str->Option Value} {base:Heap} {CX:jd} {x:Str} {k k':Nat} {ps:List Str} {sp:Sp} (C:Callee P w K mg base CX x k ps sp) (h:k<=k'):Callee P w K mg base CX x k' ps sp:=by
 obtain ⟨f,fd,h1,h2,h3,h4⟩:=C
 exact ⟨f,fd,h1,h2,h3,λvs H Q E q=>h4.len vs H Q E q,λA outer s H args us vs Q E hr=>h4.run A outer s H args us vs Q E (hr.mono h)⟩
end L2
end
section
namespace L2
open PySem PySem.Spec PyProof.Rows
theorem Bc {α:Type} (a:α):cb (Rs.ok a) = .ok a:=rfl
theorem dQ (d:Dv):jX (.ok (.rt d)) = .ok d:=rfl
theorem mq (ρ:Ev):jX (.ok (.nx ρ)) = .ok .non:=rfl
theorem L0 (c:Str):jX (.ex c) = .ex c:=rfl
theorem dk (b:MS) (ρ:Ev):xu b (.nx ρ) = b ρ:=rfl
theorem oJ (b:MS) (d:Dv):xu b (.rt d) = .ok (.rt d):=rfl
theorem cJ (b:Bool):fY (.bl b) = .ok b:=rfl
theorem wV (Pv:Nat->Ev->Prop):∀ (items:List Dv) (n:Nat) (ρ:Ev),Pv n ρ->
  (∀ (i:Nat) d ρ,items[i]? = some d->Pv (n+i) ρ->∃ ρ1 ρ',g d ρ = .ok ρ1/\(b ρ1 = .ok (.nx ρ')\/b ρ1 = .ok (.ct ρ'))/\Pv (n+ (i+1)) ρ')->∃ ρ',eu g b items ρ = .ok (.nx ρ')/\Pv (n+items.length) ρ'
 | [],n,ρ,h,_=>⟨ρ,rfl,h⟩
 | d::r,n,ρ,h,st=>by
   obtain ⟨ρ1,ρ2,h1,h2,h3⟩:=st 0 d ρ rfl h
   obtain ⟨ρ3,h4,h5⟩:=wV Pv r (n+1) ρ2 h3 λi d' ρ' e p=>by
    have:=st (i+1) d' ρ' (by simpa using e) (by rw [show n+ (i+1) = n+1+i by omega]; exact p)
    rw [show n+ (i+1+1) = n+1+ (i+1) by omega] at this
    exact this
   refine ⟨ρ3,?_,by rw [show n+ (d::r).length = n+1+r.length by simp; omega]; exact h5⟩
   unfold eu
   rw [h1]
   show (b ρ1).bind (nE (eu g b r)) = _
   rcases h2 with h2 | h2
   ·rw [h2]; exact h4
   ·rw [h2]; exact h4
theorem rq (p:Dv->Bool) (h:Dv->Dv):∀ (items:List Dv) (x:Option Cell),(∀ d∈items,t (⟨some (.v d)::cap,τ⟩:Ev) = .ok (p d))->(∀ d∈items,p d = true->e (⟨some (.v d)::cap,τ⟩:Ev) = .ok (h d))->
  cE (gN 0) t e items (⟨x::cap,τ⟩:Ev) = .ok ((items.filter p).map h)
 | [],_,_,_=>rfl
 | d::r,x,ht,he=>by
   unfold cE
   show ((t (⟨some (.v d)::cap,τ⟩:Ev)).bind λk=>if k = true then (e (⟨some (.v d)::cap,τ⟩:Ev)).bind λy=>(cE (gN 0) t e r (⟨some (.v d)::cap,τ⟩:Ev)).bind λl=>.ok (y::l) else cE (gN 0) t e r (⟨some (.v d)::cap,τ⟩:Ev)) = _
   have ih:=rq p h r (some (.v d)) (λd' m=>ht d' (List.mem_cons_of_mem _ m)) (λd' m=>he d' (List.mem_cons_of_mem _ m))
   rw [ht d (by simp),ih]
   cases q:p d with
   | true=>
     show ((e (⟨some (.v d)::cap,τ⟩:Ev)).bind λy=>_) = _
     rw [he d (by simp) q,List.filter_cons_of_pos q]
     rfl
   | false=>
     rw [List.filter_cons_of_neg (by simp [q])]
     rfl
theorem jq (h:Dv->Dv) (items:List Dv) (x:Option Cell) (he:∀ d∈items,e (⟨some (.v d)::cap,τ⟩:Ev) = .ok (h d)):cE (gN 0) dC e items (⟨x::cap,τ⟩:Ev) = .ok (items.map h):=by
 rw [rq (λ_=>true) h items x (λ_ _=>rfl) (λd m _=>he d m),List.filter_eq_self.mpr (λ_ _=>rfl)]
theorem vU (h:Dv->Dv->Dv):∀ (ps:List (Dv×Dv)) (x y:Option Cell),(∀ p∈ps,e (⟨some (.v p.1)::some (.v p.2)::cap,τ⟩:Ev) = .ok (h p.1 p.2))->
  cE (gT 2 (dJ (gN 0) (dJ (gN 1) j9))) dC e (ps.map λp=>.tup [p.1,p.2]) (⟨x::y::cap,τ⟩:Ev) = .ok (ps.map λp=>h p.1 p.2)
 | [],_,_,_=>rfl
 | p::r,x,y,he=>by
   have ih:=vU h r (some (.v p.1)) (some (.v p.2)) (λq m=>he q (List.mem_cons_of_mem _ m))
   rw [List.map_cons]
   unfold cE
   show ((e (⟨some (.v p.1)::some (.v p.2)::cap,τ⟩:Ev)).bind λz=>(cE (gT 2 (dJ (gN 0) (dJ (gN 1) j9))) dC e (r.map λp=>.tup [p.1,p.2]) (⟨some (.v p.1)::some (.v p.2)::cap,τ⟩:Ev)).bind λl=>.ok (z::l)) = _
   rw [he p (by simp),ih]
   rfl
end L2
end
section
namespace L2
open PySem PySem.Spec PyProof.Rows
end L2
end
section
namespace L2
open PySem PySem.Spec PyProof.Rows
section
variable {K:W.Frag} {Z:Addr->Prop} {H:Hp}
theorem dh.lookup:∀ {fs:List (Str×Dv)} {vs:List (Str×V)},dh K Z H fs vs->fs.lookup f = some d->∃ v,vs.lookup f = some v/\Rp K Z H d v
 | [],_,_,e=>by cases e
 | (g,x)::r,_,⟨v,s,h0,h1,h2⟩,e=>by
   subst h0
   by_cases hk:f = g
   ·subst hk
    rw [List.lookup_cons_self] at e ⊢
    cases e
    exact ⟨v,rfl,h1⟩
   ·have hb:(f == g) = false:=by simpa using hk
    rw [List.lookup_cons,hb] at e
    rw [List.lookup_cons,hb]
    exact dh.lookup h2 e
def fb (kvs:List (Key×Dv)) (k:Key):Option Dv:=(kvs.find? λkv=>decide (kv.1 = k)).map (·.2)
theorem Gu:fb [] k = none:=rfl
theorem rB (e:p.1 = k):fb (p::r) k = some p.2:=by simp [fb,List.find?_cons,e]
theorem nK (e:¬p.1 = k):fb (p::r) k = fb r k:=by simp [fb,List.find?_cons,e]
theorem dh.val (k:Key):∀ {kvs:List (Key×Dv)} {vs:List (Key×V)},dh K Z H kvs vs->(match fb kvs k,lL vs k with
  | none,none=>True
  | some d,some v=>Rp K Z H d v
  | _,_=>False)
 | [],_,h=>by rw [show _ = [] from h]; trivial
 | (y,d)::r,_,⟨v,s,h0,h1,h2⟩=>by
   subst h0
   by_cases hk:y = k
   ·rw [rB (p:=(y,d)) hk,yc (p:=(y,v)) hk]; exact h1
   ·rw [nK (p:=(y,d)) hk,yX (p:=(y,v)) hk]; exact dh.val k h2
theorem dh.len {α:Type}:∀ {l:List (α×Dv)} {r:List (α×V)},dh K Z H l r->r.length = l.length
 | [],_,h=>by rw [show _ = [] from h]; rfl
 | (k,d)::l,_,⟨v,s,h0,h1,h2⟩=>by subst h0; simp [dh.len h2]
end
def dg (K:W.Frag) (cs:List Str) (f:Str):Prop:=∀ c,cs.contains c = true->je K (dE K c)/\ib K (dE K c) f
def di (cs:List Str) (f:Str) (τ:cw):Dv->Rs Dv
 | .ob p=>match τ p with
   | some (.ins c fs)=>if cs.contains c = true then (match fs.lookup f with | some d=>.ok d | none=>.bad) else .bad
   | _=>.bad
 | _=>.bad
def bH (cs:List Str) (f:Str) (m:ME):ME:=λρ=>(m ρ).bind (di cs f ρ.t)
def kP:Dv->Option Key
 | .str s=>some (.inr s) | .int i=>some (.inl i) | _=>none
def pK (τ:cw):Dv->Option (List (Key×Dv))
 | .ob p=>match τ p with
   | some (.dct kvs)=>some kvs
   | _=>none
 | _=>none
def getD (τ:cw) (d k:Dv):Rs Dv:=match pK τ d,kP k with
 | some kvs,some k=>match fb kvs k with
   | some d=>.ok d
   | none=>.bad
 | _,_=>.bad
def m6 (neg:Bool) (τ:cw) (d k:Dv):Rs Dv:=match pK τ d,kP k with
 | some kvs,some k=>.ok (.bl (xor neg (fb kvs k).isSome))
 | _,_=>.bad
def Cn (τ:cw) (d:Dv):Rs Dv:=match pK τ d with
 | some kvs=>.ok (.int kvs.length)
 | none=>.bad
def BC (τ:cw):Dv->Rs Dv
 | .ob p=>match τ p with
   | some (.ls l)=>.ok (.lst l)
   | _=>.bad
 | _=>.bad
def wN (a k:ME):ME:=λρ=>(a ρ).bind λd=>(k ρ).bind λy=>getD ρ.t d y
def gj (neg:Bool) (k a:ME):ME:=λρ=>(k ρ).bind λy=>(a ρ).bind λd=>m6 neg ρ.t d y
def tK (a:ME):ME:=λρ=>(a ρ).bind (Cn ρ.t)
def eQ (a:ME):ME:=λρ=>(a ρ).bind (BC ρ.t)
section
variable {X:Cx} {E:XK} {K:W.Frag} {a b c e o i:Expr} {es:List Expr} {ma mb mc m:ME} {ms:MA} {mt mu:MT} {pos p2 p:Pos} {x f:Str} {q:Bool} {cs:List Str} {k:Nat}
theorem cy (F:dg X.K cs f) (he:DB X E e m) (hb:attributeBase e f X.env (eval e X.env) = eval e X.env:=by rfl):DE X E (.Attribute e f pos) (bH cs f m):=(MG he hb).imp λσ H Q ⟨B,P,ρ,r,o⟩=>⟨B,P,ρ,r,o.bind λd H1 _ s1 o1 v hv=>by
 cases d with
 | ob p=>
   unfold di at o1
   dsimp only at o1
   cases z:ρ.t p with
   | none=>rw [z] at o1; exact o1.elim
   | some u=>
     rw [z] at o1
     cases u with
     | ins c fs=>
       replace o1:Out X.mg H1 E (if cs.contains c = true then (match fs.lookup f with | some d=>.ok d | none=>.bad) else .bad) _:=o1
       split at o1
       ·rename_i hc
        split at o1
        ·rename_i d hd
         obtain ⟨dx,vs,h1,h2⟩:=((r.same s1).st p _ z).2
         obtain ⟨w,h3,h4⟩:=h2.lookup hd
         exact ⟨p,_,dx,vs,w,hv,h1,(F c hc).1,(F c hc).2,h3,o1.ok w h4⟩
        ·exact o1.elim
       ·exact o1.elim
     | dct _=>exact o1.elim
     | ls _=>exact o1.elim
 | _=>exact o1.elim⟩
theorem dY (r:aM K B P ρ σ H) (hv:gq K Z H d v) (h:pK ρ.t d = some kvs):∃ p vs,v = .ref p/\H p = some (.dK vs)/\dh K (ZU B P) H kvs vs:=by
 cases d with
 | ob p=>
   unfold pK at h
   dsimp only at h
   cases z:ρ.t p with
   | none=>rw [z] at h; cases h
   | some u=>
     rw [z] at h
     cases u with
     | dct l=>cases h; obtain ⟨vs,h1,h2⟩:=(r.st p _ z).2; exact ⟨p,vs,hv,h1,h2⟩
     | ins _ _=>cases h
     | ls _=>cases h
 | _=>cases h
theorem xK {H:Hp} {d:Dv} {v:V} {k:Key} {Z:Addr->Prop} (hv:gq K Z H d v) (h:kP d = some k):v = kV k:=by
 cases d with
 | str s=>cases h; exact hv.1
 | int s=>cases h; exact hv
 | _=>cases h
theorem L8 (hr:bI k X.A) (ha:DB X E o ma) (hi:DB X E i mb) (hs:FJ i:=by intro _ _; rfl):DE X E (.Subscript o i pos) (wN ma mb):=(J5 (tM hr) ha hi hs).imp λσ H Q ⟨B,P,ρ,r,o⟩=>⟨B,P,ρ,r,o.bind λd H1 _ s1 o1 v hv=>⟨B,P,ρ,r.same s1,o1.bind λy H2 _ s2 o2 w hw=>by
 unfold getD at o2
 split at o2
 ·rename_i kvs k h1 h2
  obtain ⟨p,vs,e1,e2,e3⟩:=dY (r.same (s1.trans s2)) (hv.same s2) h1
  have hz:=e3.val k
  split at o2
  ·rename_i d' hd
   rw [hd] at hz
   cases q:lL vs k with
   | none=>rw [q] at hz; exact hz.elim
   | some u=>rw [q] at hz; exact ⟨p,u,e1,⟨vs,k,.inl e2,xK hw h2,q.symm⟩,o2.ok u hz⟩
  ·exact o2.elim
 ·exact o2.elim⟩⟩
theorem yf {neg:Bool} {σ:St} {H:Hp} {Q:VK} {R:Bool->Hp->Prop} (h:tD X.K X.mg E (gj neg mb ma) σ H Q) (hR:∀ b H,Q (.bl b) H->R b H):lE X.K X.mg E mb σ H λy H1=>lE X.K X.mg E ma σ H1 λx H2=>∃ a o,x = .ref a/\pD H2 a y o/\R (xor neg o.isSome) H2:=by
 obtain ⟨B,P,ρ,r,o⟩:=h
 refine ⟨B,P,ρ,r,o.bind λy H1 _ s1 o1 w hw=>⟨B,P,ρ,r.same s1,o1.bind λd H2 _ s2 o2 v hv=>?_⟩⟩
 unfold m6 at o2
 split at o2
 ·rename_i kvs k h1 h2
  obtain ⟨p,vs,e1,e2,e3⟩:=dY (r.same (s1.trans s2)) hv h1
  have hz:=e3.val k
  refine ⟨p,lL vs k,e1,⟨vs,k,.inl e2,xK hw h2,rfl⟩,?_⟩
  have h3:=hR _ _ (o2.ok _ rfl)
  split at hz
  ·rename_i q1 q2; rw [q2]; rw [q1] at h3; exact h3
  ·rename_i q1 q2; rw [q2]; rw [q1] at h3; exact h3
  ·exact hz.elim
 ·exact o2.elim
theorem GQ (hr:bI k X.A) (hi:DB X E i mb) (ha:DB X E o ma) (hm:behindInMarks .NotIn o = false:=by first | exact nZ _ (by decide) (by decide) | rfl):DE X E (.Compare i [.NotIn] [o] pos) (gj true mb ma):=(KC (vC (tM hr) hi ha) hm).imp λσ H Q h=>by
 have h:=yf (R:=λb H=>Q (.bl b) H) h λ_ _ z=>z
 simp only [Bool.true_xor] at h
 exact h
theorem tq {neg:Bool} (hr:bI k X.A) (hi:DB X E i mb) (ha:DB X E o ma) (hm:behindInMarks (if neg then .NotIn else .In) o = false:=by first | exact nZ _ (by decide) (by decide) | rfl):DT X E (.Compare i [if neg then .NotIn else .In] [o] pos) (mT (gj neg mb ma)):=by
 cases neg with
 | false=>
   refine (DV (K5 (tM hr) hi ha) hm).imp λσ H Q h=>?_
   have h:=yf (R:=λb H=>∃ c,V.bl b = .bl c/\Q c H) (sT (t:=tD X.K X.mg E (gj false mb ma)) (m:=gj false mb ma) (λQ h=>h) h) λb H z=>⟨b,rfl,z⟩
   simp only [Bool.false_xor] at h
   exact h
 | true=>
   refine (DV (vC (tM hr) hi ha) hm).imp λσ H Q h=>?_
   have h:=yf (R:=λb H=>∃ c,V.bl b = .bl c/\Q c H) (sT (t:=tD X.K X.mg E (gj true mb ma)) (m:=gj true mb ma) (λQ h=>h) h) λb H z=>⟨b,rfl,z⟩
   simp only [Bool.true_xor] at h
   exact h
theorem ER (hm:X.mg "len" = none) (ha:DB X E a ma) (hst:isStar a = false:=by rfl) (hg:Gl X "len":=by rfl):DE X E (.Call (.Name "len" p) [a] [] pos) (tK ma):=
 (gJ C3 hg hm PySem.boot_len (d6 ha dm hst) (by decide) (by decide) (b5 hst) (cu rfl)).imp λσ H Q ⟨B,P,ρ,r,o⟩=>
  ⟨B,P,ρ,r,o.bind λd H1 _ s1 o1 v hv=>by
    unfold Cn at o1
    split at o1
    ·rename_i kvs h1
     obtain ⟨p,vs,e1,e2,e3⟩:=dY (r.same s1) hv h1
     exact ⟨p,vs,by rw [e1],e2,by rw [e3.len]; exact o1.ok _ rfl⟩
    ·exact o1.elim⟩
def xi (K:W.Frag) (Z:Addr->Prop) (H:Hp):List Dv->List V->Prop
 | [],xs=>xs = []
 | d::l,xs=>∃ x r,xs = x::r/\gq K Z H d x/\xi K Z H l r
def Pa (K:W.Frag) (mg:Str->Option Value) (E:XK) (m:MA):TA:=λσ H Q=>∃ B P ρ,aM K B P ρ σ H/\Out mg H E (m ρ) λd H'=>∀ v,xi K (ZU B P) H' d v->Q v H'
abbrev HB (X:Cx) (E:XK) (es:List Expr) (m:MA):Prop:=PA X es (Pa X.K X.mg E m)
theorem LY:HB X E [] ai:=dm.imp' λσ H Q ⟨B,P,ρ,r,o⟩=>o.ok [] rfl
theorem AN (ha:DB X E e m) (hr:HB X E es ms) (hs:isStar e = false:=by rfl):HB X E (e::es) (aa m ms):=(d6 ha hr hs).imp' λσ H Q ⟨B,P,ρ,r,o⟩=>
 ⟨B,P,ρ,r,o.bind λd H1 _ s1 o1 v hv=>⟨B,P,ρ,r.same s1,o1.bind λl H2 _ s2 o2 vs hvs=>o2.ok (v::vs) ⟨v,vs,rfl,hv.same s2,hvs⟩⟩⟩
theorem gq.loose (h:gq K Z H d v):Rp K (λ_=>False) H d v:=by
 cases d with
 | lst l=>
   obtain ⟨a,xs,h0,h1,h2,h3⟩:=h
   refine ⟨a,xs,h0,?_,h2,h3.weak λ_ z=>z.elim⟩
   rcases h1 with h1 | h1
   ·exact .inl ⟨h1,λz=>z⟩
   ·exact .inr h1
 | _=>exact Rp.weak (Z:=Z) (λ_ z=>z.elim) h
theorem xi.loose:∀ {d:List Dv} {v:List V},xi K Z H d v->a7 K (λ_=>False) H d v
 | [],_,h=>h
 | d::l,_,⟨x,r,h0,h1,h2⟩=>⟨x,r,h0,h1.loose,xi.loose h2⟩
theorem FA (f:jF d = true) (h:Rp K Z H d v):Rp K Z' H d v:=by
 cases d with
 | tup _=>cases f
 | lst _=>cases f
 | seq _=>cases f
 | ob _=>cases f
 | exc _=>cases f
 | _=>exact h
def Ow (f:DF) (l:List Dv):Rs Dv:=(f (λ_=>none) l).bind λd=>if jF d = true then .ok d else .bad
def mU (f:DF) (a:MA):ME:=λρ=>(a ρ).bind (Ow f)
theorem JH {f:DF} {j:Nat} {ps:List Str} (px:PX X E) (C:Callee X.prog X.w X.K X.mg X.base (dF X.prog X.w) x j ps (ic X.K X.mg f)) (hr:bI k X.A) (ha:HB X E (e::es) ms) (hj:j<=k:=by first | decide | omega) (hg:Gl X x:=by rfl) (hdb:(x == ("__debug__":Str)) = false:=by decide)
  (he:isStar e = false:=by rfl) (hpl:es.all (λe=>!isStar e) = true:=by rfl):DE X E (.Call (.Name x p) (e::es) [] pos) (mU f ms):=
 (p4 px C hr ha hj hg hdb (b5 he) (cu hpl)).imp λσ H Q ⟨B,P,ρ,r,o⟩=>⟨B,P,ρ,r,o.bind λl H1 _ s1 o1 vs hv=>by
  show ic X.K X.mg f (vs++[]) H1 Q E
  rw [List.append_nil]
  refine ⟨λ_=>False,λ_=>none,l,λ_ z=>z.elim,(λ_ _ z=>nomatch z),hv.loose,Out.bind (r:=f (λ_=>none) l) o1 λd H2 _ s2 o2 v hv=>?_⟩
  split at o2
  ·rename_i hf; exact o2.ok v (FA hf hv)
  ·exact o2.elim⟩
theorem j8 (he:DB X E e m):DB X E e (eQ m):=he.imp λσ H Q ⟨B,P,ρ,r,o⟩=>⟨B,P,ρ,r,o.bind λd H1 _ s1 o1 v hv=>by
 cases d with
 | ob p=>
   unfold BC at o1
   dsimp only at o1
   cases z:ρ.t p with
   | none=>rw [z] at o1; exact o1.elim
   | some u=>
     rw [z] at o1
     cases u with
     | ls l=>
       obtain ⟨xs,h1,h2,h3⟩:=((r.same s1).st p _ z).2
       exact o1.ok v ⟨p,xs,hv,.inl h1,h2,h3⟩
     | ins _ _=>exact o1.elim
     | dct _=>exact o1.elim
 | _=>exact o1.elim⟩
end
end L2
end
section
namespace L2
open PySem PySem.Spec PyProof.Rows
inductive Fw where
 | nx (ρ:Ev) | bk (ρ:Ev) | ct (ρ:Ev) | rt (d:Dv) (τ:cw) | ex (c:Str) (τ:cw) | bad
abbrev MW:=Ev->Fw->Prop
inductive Rw where
 | ok (d:Dv) (τ:cw) | ex (c:Str) (τ:cw) | bad
abbrev MX:=Ev->Rw->Prop
abbrev qD:Addr->Prop:=λ_=>False
structure Sw (B P:Addr->Prop) (τ:cw) (H:Hp) (B' P':Addr->Prop) (τ':cw) (H':Hp):Prop where
 keep:∀ a o,H a = some o->¬P a->τ a = none->H' a = some o
 tup:∀ a xs,H a = some (.tup xs)->H' a = some (.tup xs)
 dt:∀ a o u,H a = some (.dt o u)->H' a = some (.dt o u)
 there:∀ a,H a≠none->H' a≠none
 yM:∀ a,P' a->P a\/H a = none
 rb:∀ a,B' a->B a\/H a = none
 subB:∀ a,B a->B' a
 oC:∀ a,τ a = none->H a≠none->τ' a = none
section
theorem Sw.back (s:Sw B P τ H B1 P1 τ1 H1) (h:H1 a = none):H a = none:=by
 cases z:H a with
 | none=>rfl
 | some o=>exact absurd h (s.there a (by rw [z]; exact λz=>nomatch z))
theorem Sw.trans (a:Sw B P τ H B1 P1 τ1 H1) (b:Sw B1 P1 τ1 H1 B2 P2 τ2 H2):Sw B P τ H B2 P2 τ2 H2 where
 keep:=λx o e n t=>b.keep x o (a.keep x o e n t) (λz=>(a.yM x z).elim n λz=>by rw [e] at z; cases z) (a.oC x t (by rw [e]; exact λz=>nomatch z))
 tup:=λx xs e=>b.tup x xs (a.tup x xs e)
 dt:=λx o u e=>b.dt x o u (a.dt x o u e)
 there:=λx e=>b.there x (a.there x e)
 yM:=λx z=>(b.yM x z).elim (a.yM x) λz=>.inr (a.back z)
 rb:=λx z=>(b.rb x z).elim (a.rb x) λz=>.inr (a.back z)
 subB:=λx z=>b.subB x (a.subB x z)
 oC:=λx t e=>b.oC x (a.oC x t e) (a.there x e)
theorem Sw.nL (e:Ext P H H1) (n:∀ a,P1 a->P a\/H a = none):Sw B P τ H B P1 τ H1:=⟨λa o h z _=>e.keep a o h z,e.tup,e.dt,e.there,n,λ_ z=>.inl z,λ_ z=>z,λ_ t _=>t⟩
theorem Sw.same (s:aK H H1):Sw B P τ H B P τ H1:=.nL (s.ext P) λ_ z=>.inl z
theorem Sw.refl:Sw B P τ H B P τ H:=.same (aK.refl _)
theorem Sw.ext (s:Sw B P τ H B1 P1 τ1 H1) (hb:∀ a o,τ a = some o->B a):Ext (ZU B P) H H1:=
 ⟨λa o e n=>s.keep a o e (λz=>n (.inr z)) (by
  cases z:τ a with
  | none=>rfl
  | some o=>exact absurd (.inl (hb a o z)) n),s.tup,s.dt,s.there⟩
theorem Sw.drop (s:Sw B P τ H B1 P1 τ1 H1):Sw B P τ H B1 qD τ1 H1:=⟨s.keep,s.tup,s.dt,s.there,λ_ z=>z.elim,s.rb,s.subB,s.oC⟩
end
def aF (τ:cw) (p:Addr) (o:Ob):cw:=λa=>if a = p then some o else τ a
theorem aY:aF τ p o p = some o:=if_pos rfl
theorem dc (h:a≠p):aF τ p o a = τ a:=if_neg h
def lA (B:Addr->Prop) (H:Hp):Prop:=∀ a,B a->H a≠none
section
variable {K:W.Frag} {B P B1 P1 Z1:Addr->Prop} {ρ:Ev} {σ:St} {H H1:Hp} {τ1:cw}
theorem aM.LM (r:aM K B P ρ σ H) (h:P a):ρ.t a = none:=by
 cases z:ρ.t a with
 | none=>rfl
 | some o=>exact absurd h (r.ob a o z).2.1
theorem aM.hb (r:aM K B P ρ σ H):∀ a o,ρ.t a = some o->B a:=λa o e=>(r.ob a o e).1
theorem aM.HG (r:aM K B P ρ σ H):oi K B ρ.t H:=λa o e=>⟨(r.ob a o e).1,(r.ob a o e).2.2.weak λ_ z=>.inl (.inl z)⟩
theorem aM.Ol (r:aM K B P ρ σ H) (s:Sw (ZU B P) qD ρ.t H Z1 qD τ1 H1) (al:lA Z1 H1) (t:oi K Z1 τ1 H1):
  aM K (λa=>B a\/(Z1 a/\¬P a)) P ⟨ρ.c,τ1⟩ σ H1/\Sw B P ρ.t H (λa=>B a\/(Z1 a/\¬P a)) P τ1 H1:=by
 have ex:Ext (ZU B P) H H1:=⟨λa o e n=>s.keep a o e (λz=>z) (by
  cases z:ρ.t a with
  | none=>rfl
  | some o=>exact absurd (.inl (r.hb a o z)) n),s.tup,s.dt,s.there⟩
 have up:∀ a,ZU B P a->ZU (λa=>B a\/(Z1 a/\¬P a)) P a:=λa z=>z.elim (λz=>.inl (.inl z)) .inr
 have dn:∀ a,ZU (λa=>B a\/(Z1 a/\¬P a)) P a->ZU B P a\/H a = none:=λa z=>by
  rcases z with (z | z) | z
  ·exact .inl (.inl z)
  ·exact s.rb a z.1
  ·exact .inl (.inr z)
 have d1:∀ a,ZU (λa=>B a\/(Z1 a/\¬P a)) P a->Z1 a:=λa z=>by
  rcases z with (z | z) | z
  ·exact s.subB a (.inl z)
  ·exact z.1
  ·exact s.subB a (.inr z)
 have some':∀ {a:Addr} {o:HO},H a = some o->H a≠none:=λe z=>by rw [e] at z; cases z
 refine ⟨⟨r.len,λa z=>al a (d1 a z),λi d e=>?_,λi l e=>?_,λi l e=>?_,r.inj,λa o e=>?_,λi l p e h=>?_⟩,
  ⟨λa o e n t=>s.keep a o e (λz=>z) t,s.tup,s.dt,s.there,λ_ z=>.inl z,λa z=>?_,λ_ z=>.inl z,s.oC⟩⟩
 ·obtain ⟨v,h1,h2⟩:=r.vs i d e
  exact ⟨v,h1,(h2.weak dn).mono ex up⟩
 ·obtain ⟨p,xs,h1,h0,h2,h3,h4⟩:=r.bs i l e
  exact ⟨p,xs,h1,h0,s.keep p _ h2 (λz=>z) (r.bo i l p e h1),h3,(h4.weak dn).mono ex up⟩
 ·obtain ⟨p,xs,h1,h2,h3,h4,h5,h6⟩:=r.ms i l e
  exact ⟨p,xs,h1,h2,λz=>z.elim h3 λz=>z.2 h2,s.keep p _ h4 (λz=>z) (r.LM h2),h5,(h6.weak dn).mono ex up⟩
 ·replace e:τ1 a = some o:=e
  have np:¬P a:=λz=>by
   rw [s.oC a (r.LM z) (r.old a (.inr z))] at e
   cases e
  exact ⟨.inr ⟨(t a o e).1,np⟩,np,(t a o e).2.weak λa z=>.inl (d1 a z)⟩
 ·obtain ⟨p',xs,h1,h0,h2,_⟩:=r.bs i l e
  rw [show σ[i]? = _ from h] at h1
  cases h1
  exact s.oC p (r.bo i l p e h) (some' h2)
 ·rcases z with z | z
  ·exact .inl z
  ·rcases s.rb a z.1 with (q | q) | q
   ·exact .inl q
   ·exact absurd q z.2
   ·exact .inr q
theorem aM.put (r:aM K B P ρ σ H) (hp:ρ.t p = some o) (h0:H p = some u0) (hc:KL u0) (ho:∀ H',Ext (ZU B P) H H'->H' p = some u->kS K (ZU B P) H' p o'):
  aM K B P ⟨ρ.c,aF ρ.t p o'⟩ σ (upd H p u)/\Sw B P ρ.t H B P (aF ρ.t p o') (upd H p u):=by
 have ex:Ext (ZU B P) H (upd H p u):=Ext.ON h0 hc (.inl (r.hb p o hp))
 have ne:∀ {a:Addr},ρ.t a = none->a≠p:=λe z=>by rw [z,hp] at e; cases e
 refine ⟨⟨r.len,λa z=>ex.there a (r.old a z),λi d e=>?_,λi l e=>?_,λi l e=>?_,r.inj,λa o1 e=>?_,λi l q e h=>?_⟩,
  ⟨λa o e n t=>by rw [aZ (ne t)]; exact e,ex.tup,ex.dt,ex.there,λ_ z=>.inl z,λ_ z=>.inl z,λ_ z=>z,λa t _=>by rw [dc (ne t)]; exact t⟩⟩
 ·obtain ⟨v,h1,h2⟩:=r.vs i d e
  exact ⟨v,h1,h2.mono ex λ_ z=>z⟩
 ·obtain ⟨q,xs,h1,h0,h2,h3,h4⟩:=r.bs i l e
  exact ⟨q,xs,h1,h0,by rw [aZ (ne (r.bo i l q e h1))]; exact h2,h3,h4.mono ex λ_ z=>z⟩
 ·obtain ⟨q,xs,h1,h2,h3,h4,h5,h6⟩:=r.ms i l e
  exact ⟨q,xs,h1,h2,h3,by rw [aZ (ne (r.LM h2))]; exact h4,h5,h6.mono ex λ_ z=>z⟩
 ·by_cases z:a = p
  ·subst z
   replace e:aF ρ.t a o' a = some o1:=e
   rw [aY] at e
   cases e
   exact ⟨(r.ob a o hp).1,(r.ob a o hp).2.1,ho _ ex bj⟩
  ·replace e:aF ρ.t p o' a = some o1:=e
   rw [dc z] at e
   exact ⟨(r.ob a o1 e).1,(r.ob a o1 e).2.1,(r.ob a o1 e).2.2.mono ex (λ_ z=>z) (aZ z)⟩
 ·have t:=r.bo i l q e h
  show aF ρ.t p o' q = none
  rw [dc (ne t)]
  exact t
theorem aM.make (r:aM K B P ρ σ H) (hn:H p = none) (s:aK H H') (ho:kS K (λa=>ZU B P a\/a = p) H' p o):
  aM K (λa=>B a\/a = p) P ⟨ρ.c,aF ρ.t p o⟩ σ H'/\Sw B P ρ.t H (λa=>B a\/a = p) P (aF ρ.t p o) H':=by
 have zn:∀ a,ZU (λa=>B a\/a = p) P a->ZU B P a\/H a = none:=λa z=>by
  rcases z with (z | z) | z
  ·exact .inl (.inl z)
  ·exact .inr (z▸hn)
  ·exact .inl (.inr z)
 have ne:∀ {a:Addr},H a≠none->a≠p:=λe z=>e (z▸hn)
 have np:¬P p:=λz=>r.old p (.inr z) hn
 have e':=s.ext (λ_=>False)
 obtain ⟨u,hu,_⟩:=ho.at
 refine ⟨⟨r.len,λa z=>?_,λi d e=>?_,λi l e=>?_,λi l e=>?_,r.inj,λa o1 e=>?_,λi l q e h=>?_⟩,
  ⟨λa o e n t=>s a o e,λa xs e=>s a _ e,λa o u e=>s a _ e,e'.there,λ_ z=>.inl z,λa z=>z.elim .inl (λz=>.inr (by rw [z]; exact hn)),λ_ z=>.inl z,λa t z=>by rw [dc (ne z)]; exact t⟩⟩
 ·rcases z with (z | z) | z
  ·exact e'.there a (r.old a (.inl z))
  ·rw [z,hu]; exact λz=>nomatch z
  ·exact e'.there a (r.old a (.inr z))
 ·obtain ⟨v,h1,h2⟩:=r.vs i d e
  exact ⟨v,h1,(h2.weak zn).same s⟩
 ·obtain ⟨q,xs,h1,h0,h2,h3,h4⟩:=r.bs i l e
  exact ⟨q,xs,h1,h0,s _ _ h2,h3,(h4.weak zn).same s⟩
 ·obtain ⟨q,xs,h1,h2,h3,h4,h5,h6⟩:=r.ms i l e
  exact ⟨q,xs,h1,h2,λz=>z.elim h3 λz=>np (z▸h2),s _ _ h4,h5,(h6.weak zn).same s⟩
 ·by_cases z:a = p
  ·subst z
   replace e:aF ρ.t a o a = some o1:=e
   rw [aY] at e
   cases e
   refine ⟨.inr rfl,np,ho.weak λa z=>?_⟩
   rcases z with (z | z) | z
   ·exact .inl (.inl (.inl z))
   ·exact .inl (.inr z)
   ·exact .inl (.inl (.inr z))
  ·replace e:aF ρ.t p o a = some o1:=e
   rw [dc z] at e
   exact ⟨.inl (r.ob a o1 e).1,(r.ob a o1 e).2.1,((r.ob a o1 e).2.2.weak zn).same s⟩
 ·obtain ⟨q',xs,h1,h0,h2,_⟩:=r.bs i l e
  rw [show σ[i]? = _ from h] at h1
  cases h1
  show aF ρ.t p o q = none
  rw [dc (ne (by rw [h2]; exact λz=>nomatch z))]
  exact r.bo i l q e h
end
end L2
end
section
namespace L2
open PySem PySem.Spec PyProof.Rows
def gH (K:W.Frag) (mg:Str->Option Value) (B P:Addr->Prop) (τ:cw) (H:Hp) (E:XK) (r:Fw) (D:Ends):Prop:=match r with
 | .nx ρ=>∀ B' P' σ' H',Sw B P τ H B' P' ρ.t H'->aM K B' P' ρ σ' H'->D.nx σ' H'
 | .bk ρ=>∀ B' P' σ' H',Sw B P τ H B' P' ρ.t H'->aM K B' P' ρ σ' H'->D.bk σ' H'
 | .ct ρ=>∀ B' P' σ' H',Sw B P τ H B' P' ρ.t H'->aM K B' P' ρ σ' H'->D.ct σ' H'
 | .rt d τ'=>∀ v B' H',Sw B P τ H B' qD τ' H'->lA B' H'->oi K B' τ' H'->Rp K B' H' d v->D.rt v H'
 | .ex c τ'=>∀ B' H',Sw B P τ H B' qD τ' H'->lA B' H'->oi K B' τ' H'->E (.ref (aR mg c)) none H'
 | .bad=>False
def nH (K:W.Frag) (mg:Str->Option Value) (B P:Addr->Prop) (ρ:Ev) (σ:St) (H:Hp) (E:XK) (r:Rw) (Q:VK):Prop:=match r with
 | .ok d τ'=>∀ v B' H',Sw B P ρ.t H B' P τ' H'->aM K B' P ⟨ρ.c,τ'⟩ σ H'->Rp K (ZU B' P) H' d v->Q v H'
 | .ex c τ'=>∀ B' H',Sw B P ρ.t H B' P τ' H'->aM K B' P ⟨ρ.c,τ'⟩ σ H'->E (.ref (aR mg c)) none H'
 | .bad=>False
def tW (K:W.Frag) (mg:Str->Option Value) (E:XK) (m:MW):TS:=λD σ H=>∃ B P ρ,aM K B P ρ σ H/\∀ r,m ρ r->gH K mg B P ρ.t H E r D
def tX (K:W.Frag) (mg:Str->Option Value) (E:XK) (m:MX):TE:=λσ H Q=>∃ B P ρ,aM K B P ρ σ H/\∀ r,m ρ r->nH K mg B P ρ σ H E r Q
abbrev WS (X:Cx) (E:XK) (st:Stmt) (m:MW):Prop:=PS X st (tW X.K X.mg E m)
abbrev jf (X:Cx) (E:XK) (st:List Stmt) (m:MW):Prop:=ia X st (tW X.K X.mg E m)
abbrev WE (X:Cx) (E:XK) (e:Expr) (m:MX):Prop:=PE X e (tX X.K X.mg E m)
open Classical in
noncomputable def wY (τ:cw):Rs Fl->Fw
 | .ok (.nx ρ)=>if ρ.t = τ then .nx ρ else .bad
 | .ok (.bk ρ)=>if ρ.t = τ then .bk ρ else .bad
 | .ok (.ct ρ)=>if ρ.t = τ then .ct ρ else .bad
 | .ok (.rt d)=>.rt d τ
 | .ex c=>.ex c τ
 | .bad=>.bad
def ay (s:MS):MW:=λρ r=>r = wY ρ.t (s ρ)
def L3 (τ:cw):Rs Dv->Rw
 | .ok d=>.ok d τ
 | .ex c=>.ex c τ
 | .bad=>.bad
def dr (m:ME):MX:=λρ r=>r = L3 ρ.t (m ρ)
def OR (b:MW):Fw->Fw->Prop
 | .nx ρ,r=>b ρ r
 | r1,r=>r = r1
def aX (a b:MW):MW:=λρ r=>∃ r1,a ρ r1/\OR b r1 r
def kq (t:MT) (a b:MW):MW:=λρ r=>match t ρ with
 | .ok true=>a ρ r
 | .ok false=>b ρ r
 | .ex c=>r = .ex c ρ.t
 | .bad=>r = .bad
def lC (m:MX) (k:Dv->cw->MW):MW:=λρ r=>∃ r1,m ρ r1/\match r1 with
 | .ok d τ=>k d τ ⟨ρ.c,τ⟩ r
 | .ex c τ=>r = .ex c τ
 | .bad=>r = .bad
def Cs (i:Nat) (m:MX):MW:=lC m λd _ ρ r=>r = .nx (ρ.set i (some (.v d)))
def nB (m:MX):MW:=lC m λ_ _ ρ r=>r = .nx ρ
def FL (m:MX):MW:=lC m λd τ _ r=>r = .rt d τ
def fR {α:Type} (m:Ev->Rs α) (k:α->MW):MW:=λρ r=>match m ρ with
 | .ok a=>k a ρ r
 | .ex c=>r = .ex c ρ.t
 | .bad=>r = .bad
def iw (τ:cw):Dv->Option (Addr×Str×List (Str×Dv))
 | .ob p=>match τ p with
   | some (.ins c fs)=>some (p,c,fs)
   | _=>none
 | _=>none
def fV (f:Str) (d:Dv):List (Str×Dv)->List (Str×Dv)
 | []=>[(f,d)]
 | (g,x)::r=>if g = f then (g,d)::r else (g,x)::fV f d r
def de (cs:List Str) (f:Str) (mo:ME) (me:MX):MW:=lC me λd _=>fR mo λo ρ r=>match iw ρ.t o with
 | some (p,c,fs)=>r = if cs.contains c = true/\fs.length < 1000 then .nx ⟨ρ.c,aF ρ.t p (.ins c (fV f d fs))⟩ else .bad
 | none=>r = .bad
def fS (kvs:List (Key×Dv)) (k:Key) (d:Dv):List (Key×Dv):=
 if (kvs.any λkv=>decide (kv.1 = k)) = true then kvs.map (λkv=>if kv.1 = k then (kv.1,d) else kv) else kvs++[(k,d)]
def y8 (τ:cw):Dv->Option (Addr×List (Key×Dv))
 | .ob p=>match τ p with
   | some (.dct kvs)=>some (p,kvs)
   | _=>none
 | _=>none
def kH (mo mk:ME) (me:MX):MW:=lC me λd _=>fR mo λo=>fR mk λk ρ r=>match y8 ρ.t o,kP k with
 | some (p,kvs),some k=>r = if kvs.length < sizeLine then .nx ⟨ρ.c,aF ρ.t p (.dct (fS kvs k d))⟩ else .bad
 | _,_=>r = .bad
def vT (τ:cw):Dv->Option (Addr×List Dv)
 | .ob p=>match τ p with
   | some (.ls l)=>some (p,l)
   | _=>none
 | _=>none
def xj (mo me:ME):MW:=fR mo λo ρ r=>match vT ρ.t o with
 | some (p,l)=>fR me (λd ρ r=>r = if l.length < sizeLine then .nx ⟨ρ.c,aF ρ.t p (.ls (l++[d]))⟩ else .bad) ρ r
 | none=>r = .bad
abbrev DX:=cw->List Dv->Rw->Prop
def iq (k:Nat) (f:DX) (a:MA):MX:=λρ r=>match a ρ with
 | .ok l=>if l.length = k then f ρ.t l r else r = .bad
 | .ex c=>r = .ex c ρ.t
 | .bad=>r = .bad
def jC:MX:=λρ r=>∃ p,ρ.t p = none/\r = .ok (.ob p) (aF ρ.t p (.dct []))
def sU:MX:=λρ r=>∃ p,ρ.t p = none/\r = .ok (.ob p) (aF ρ.t p (.ls []))
def wx (p:Addr):Rw->Rw
 | .ok .non τ=>.ok (.ob p) τ
 | .ex c τ=>.ex c τ
 | _=>.bad
def fW (c:Str) (k:Nat) (f:DX) (a:MA):MX:=λρ r=>match a ρ with
 | .ok l=>if l.length+1 = k then ∃ p r1,ρ.t p = none/\f (aF ρ.t p (.ins c [])) (.ob p::l) r1/\r = wx p r1 else r = .bad
 | .ex c=>r = .ex c ρ.t
 | .bad=>r = .bad
section
variable {K:W.Frag} {mg:Str->Option Value} {B P B1 P1:Addr->Prop} {τ τ1:cw} {H H1:Hp} {E:XK} {r:Fw} {D:Ends} {ρ:Ev} {σ:St}
theorem gH.mono (h:gH K mg B P τ H E r D) (s:Sw B P τ H B1 P1 τ1 H1):gH K mg B1 P1 τ1 H1 E r D:=by
 cases r with
 | nx ρ=>exact λB' P' σ' H' s' e=>h B' P' σ' H' (s.trans s') e
 | bk ρ=>exact λB' P' σ' H' s' e=>h B' P' σ' H' (s.trans s') e
 | ct ρ=>exact λB' P' σ' H' s' e=>h B' P' σ' H' (s.trans s') e
 | rt d τ'=>exact λv B' H' s' a t e=>h v B' H' (s.trans s') a t e
 | ex c τ'=>exact λB' H' s' a t=>h B' H' (s.trans s') a t
 | bad=>exact h.elim
theorem aM.alive (r:aM K B P ρ σ H):lA B H:=λa z=>r.old a (.inl z)
theorem aM.HE (r:aM K B P ρ σ H) (ex:Ext P H H1):oi K B ρ.t H1:=λa o e=>by
 obtain ⟨h1,h2,h3⟩:=r.ob a o e
 obtain ⟨u,hu,_⟩:=h3.at
 exact ⟨h1,((h3.weak (Z':=λa=>ZU B P a) λ_ z=>.inl z).mono ex (λ_ z=>.inr z) ((ex.keep a u hu h2).trans hu.symm)).weak λ_ z=>.inl (.inl z)⟩
theorem gH.Oj (h:gH K mg B P ρ.t H E (.ex c ρ.t) D) (r:aM K B P ρ σ H):∀ H',aK H H'->E (.ref (aR mg c)) none H':=λH' s=>h B H' (Sw.same s).drop (r.same s).alive (r.same s).HG
theorem A7 (h:tW K mg E (ay s) D σ H):tS K mg E q s D σ H:=by
 obtain ⟨B,P,ρ,r,o⟩:=h
 refine ⟨B,P,ρ,r,?_⟩
 have o:=o _ rfl
 cases z:s ρ with
 | ok f=>
   rw [z] at o
   cases f with
   | nx ρ'=>
     unfold wY at o
     dsimp only at o
     split at o
     ·rename_i ht
      exact λP' σ' H' st e=>o B P' σ' H' (by rw [ht]; exact .nL st.ext st.new) e
     ·exact o.elim
   | bk ρ'=>
     unfold wY at o
     dsimp only at o
     split at o
     ·rename_i ht
      exact λP' σ' H' st e=>o B P' σ' H' (by rw [ht]; exact .nL st.ext st.new) e
     ·exact o.elim
   | ct ρ'=>
     unfold wY at o
     dsimp only at o
     split at o
     ·rename_i ht
      exact λP' σ' H' st e=>o B P' σ' H' (by rw [ht]; exact .nL st.ext st.new) e
     ·exact o.elim
   | rt d=>exact λv H' ex hv=>o v B H' (.nL ex λ_ z=>z.elim) (λa z=>ex.there a (r.old a (.inl z))) (r.HE ex) hv
 | ex c=>rw [z] at o; exact λH' ex _=>o B H' (.nL ex λ_ z=>z.elim) (λa z=>ex.there a (r.old a (.inl z))) (r.HE ex)
 | bad=>rw [z] at o; exact o.elim
theorem F1 (h:tX K mg E (dr m) σ H Q):tD K mg E m σ H Q:=by
 obtain ⟨B,P,ρ,r,o⟩:=h
 refine ⟨B,P,ρ,r,?_⟩
 have o:=o _ rfl
 cases z:m ρ with
 | ok d=>rw [z] at o; exact λH' s v hv=>o v B H' (.same s) (r.same s) hv
 | ex c=>rw [z] at o; exact λH' s=>o B H' (.same s) (r.same s)
 | bad=>rw [z] at o; exact o.elim
theorem kj (r:aM K B P ρ σ H) (o:∀ r,lC m k ρ r->gH K mg B P ρ.t H E r D)
  (h:∀ d τ v B' H',Sw B P ρ.t H B' P τ H'->aM K B' P ⟨ρ.c,τ⟩ σ H'->Rp K (ZU B' P) H' d v->(∀ r,k d τ ⟨ρ.c,τ⟩ r->gH K mg B' P τ H' E r D)->Q v H'):tX K mg E m σ H Q:=by
 refine ⟨B,P,ρ,r,λr1 h1=>?_⟩
 cases r1 with
 | ok d τ=>exact λv B' H' s e hv=>h d τ v B' H' s e hv λr hr=>(o r ⟨_,h1,hr⟩).mono s
 | ex c τ=>exact λB' H' s e=>o (.ex c τ) ⟨_,h1,rfl⟩ B' H' s.drop e.alive e.HG
 | bad=>exact o .bad ⟨_,h1,rfl⟩
theorem kf {α:Type} {m:Ev->Rs α} {k:α->MW} {kk:α->Hp->Prop} (r:aM K B P ρ σ H) (o:∀ r,fR m k ρ r->gH K mg B P ρ.t H E r D)
  (h:∀ a H',aK H H'->m ρ = .ok a->(∀ r,k a ρ r->gH K mg B P ρ.t H' E r D)->kk a H'):Out mg H E (m ρ) kk:=by
 unfold fR at o
 cases z:m ρ with
 | ok a=>exact λH' s=>h a H' s z λr hr=>(o r (by rw [z]; exact hr)).mono (.same s)
 | ex c=>exact (o (.ex c ρ.t) (by rw [z])).Oj r
 | bad=>exact o .bad (by rw [z])
theorem dh.eZ (h:Rp K Z H d v):∀ {fs:List (Str×Dv)} {vs:List (Str×V)},dh K Z H fs vs->dh K Z H (fV f d fs) (L2.eZ f v vs)
 | [],_,e=>by rw [show _ = [] from e]; exact ⟨v,[],rfl,h,rfl⟩
 | (g,x)::l,_,⟨y,s,h0,h1,h2⟩=>by
   subst h0
   unfold fV L2.eZ
   split
   ·exact ⟨v,s,rfl,h,h2⟩
   ·exact ⟨y,_,rfl,h1,dh.eZ h h2⟩
theorem dh.any (k:Key):∀ {fs:List (Key×Dv)} {vs:List (Key×V)},dh K Z H fs vs->(vs.any λkv=>decide (kv.1 = k)) = (fs.any λkv=>decide (kv.1 = k))
 | [],_,e=>by rw [show _ = [] from e]; rfl
 | (g,x)::l,_,⟨y,s,h0,h1,h2⟩=>by subst h0; rw [List.any_cons,List.any_cons,dh.any k h2]
theorem dh.map (h:Rp K Z H d v):∀ {fs:List (Key×Dv)} {vs:List (Key×V)},dh K Z H fs vs->dh K Z H (fs.map (λkv=>if kv.1 = k then (kv.1,d) else kv)) (vs.map (λkv=>if kv.1 = k then (kv.1,v) else kv))
 | [],_,e=>by rw [show _ = [] from e]; rfl
 | (g,x)::l,_,⟨y,s,h0,h1,h2⟩=>by
   subst h0
   rw [List.map_cons,List.map_cons]
   dsimp only
   split
   ·exact ⟨v,_,rfl,h,dh.map h h2⟩
   ·exact ⟨y,_,rfl,h1,dh.map h h2⟩
theorem dh.append (h:Rp K Z H d v):∀ {fs:List (Key×Dv)} {vs:List (Key×V)},dh K Z H fs vs->dh K Z H (fs++[(k,d)]) (vs++[(k,v)])
 | [],_,e=>by rw [show _ = [] from e]; exact ⟨v,[],rfl,h,rfl⟩
 | (g,x)::l,_,⟨y,s,h0,h1,h2⟩=>by subst h0; exact ⟨y,_,rfl,h1,dh.append h h2⟩
theorem dh.putK (h:Rp K Z H d v) (hr:dh K Z H fs vs):dh K Z H (fS fs k d) (putK vs k v):=by
 unfold fS L2.putK
 rw [hr.any k]
 split
 ·exact hr.map h
 ·exact hr.append h
end
end L2
end
section
namespace L2
open PySem PySem.Spec PyProof.Rows
section
variable {X:Cx} {E:XK} {q:Bool} {st:Stmt} {rest body orelse:List Stmt} {s:MS} {w u:MW} {e o i tg:Expr} {es:List Expr} {m mo mk me:ME} {mx:MX} {ms:MA} {mt:MT} {c:Expr} {pos p p2:Pos} {x f:Str} {cs:List Str} {k j:Nat}
theorem bF (h:DS X E q st s):WS X E st (ay s):=PS.imp h λD σ H z=>A7 z
theorem JG (h:mH X E q rest s):jf X E rest (ay s):=ia.imp h λD σ H z=>A7 z
theorem eR (h:DE X E e m):WE X E e (dr m):=h.imp λσ H Q z=>F1 z
theorem pX:jf X E [] (ay aL):=JG (q:=false) bZ
theorem aO (h1:WS X E st w) (h2:jf X E rest u):jf X E (st::rest) (aX w u):=(yb h1 h2).imp λD σ H ⟨B,P,ρ,r,o⟩=>by
 refine ⟨B,P,ρ,r,λr1 h1=>?_⟩
 cases r1 with
 | nx ρ'=>exact λB' P' σ' H' s' e=>⟨B',P',ρ',e,λr hr=>(o r ⟨_,h1,hr⟩).mono s'⟩
 | bk ρ'=>exact o _ ⟨_,h1,rfl⟩
 | ct ρ'=>exact o _ ⟨_,h1,rfl⟩
 | rt d τ'=>exact o _ ⟨_,h1,rfl⟩
 | ex c τ'=>exact o _ ⟨_,h1,rfl⟩
 | bad=>exact o _ ⟨_,h1,rfl⟩
theorem cD (h1:WS X E st w):jf X E [st] w:=uA h1
theorem Bp (hc:DT X E c mt) (ha:jf X E body w) (hb:jf X E orelse u):WS X E (.If c body orelse pos) (kq mt w u):=(CI hc ha hb).imp λD σ H ⟨B,P,ρ,r,o⟩=>by
 refine ⟨B,P,ρ,r,?_⟩
 unfold kq at o
 cases z:mt ρ with
 | ok b=>
   rw [z] at o
   cases b with
   | true=>exact λH' s=>Bq ⟨B,P,ρ,r.same s,λr hr=>(o r hr).mono (.same s)⟩
   | false=>exact λH' s=>Bs ⟨B,P,ρ,r.same s,λr hr=>(o r hr).mono (.same s)⟩
 | ex c=>rw [z] at o; exact (o _ rfl).Oj r
 | bad=>rw [z] at o; exact o _ rfl
theorem HN {i:Nat} {pos':Pos} (hN:X.N.Nodup) (he:WE X E e mx) (hi:X.N[i]? = some x:=by rfl) (hx:Loc X.env.scope x:=by first | exact Or.inl rfl | exact Or.inr rfl) (hs:swapsWith e (some (.Name x pos')) pos.line X.env = pure false:=by rfl) (han:X.dZ = none\/i∈X.iW:=by first | exact .inl rfl | exact .inr (by decide) | assumption)
  (hf:X.fn x = true\/X.env.scope.names.lookup x = some .local:=by first | exact .inl rfl | exact .inr rfl | assumption):WS X E (.Assign [.Name x pos'] e pos) (Cs i mx):=(L2.BR hN he hi hx hs han hf).imp λD σ H ⟨B,P,ρ,r,o⟩=>
 kj r o λd τ v B' H' s e hv o=>o _ rfl B' P _ H' .refl (e.set i hv)
theorem tN (he:WE X E e mx) (hs:swapsWith e none pos.line X.env = pure false:=by rfl):WS X E (.Expr e pos) (nB mx):=(mi he hs).imp λD σ H ⟨B,P,ρ,r,o⟩=>
 kj r o λd τ v B' H' s e hv o=>o _ rfl B' P _ H' .refl e
theorem Od (he:WE X E e mx):WS X E (.Return (some e) pos) (FL mx):=(xC he).imp λD σ H ⟨B,P,ρ,r,o⟩=>
 kj r o λd τ v B' H' s e hv o=>o _ rfl v B' H' (Sw.refl (P:=P)).drop e.alive e.HG (hv.weak λ_ z=>.inl (.inl z))
theorem w_fld (F:dg X.K cs f) (ho:DE X E o mo) (he:WE X E e mx) (hs:swapsWith e (some (.Attribute o f pos')) pos.line X.env = pure false:=by rfl):WS X E (.Assign [.Attribute o f pos'] e pos) (de cs f mo mx):=(Md ho he hs).imp λD σ H ⟨B,P,ρ,r,o⟩=>
 kj r o λd τ v B' H' s e hv o=>⟨B',P,_,e,kf e o λa H2 s2 _ o v2 hv2=>by
  dsimp only at o
  unfold iw at o
  cases a with
  | ob p=>
    dsimp only at o
    cases z:τ p with
    | none=>rw [z] at o; exact (o _ rfl).elim
    | some u=>
      rw [z] at o
      cases u with
      | ins c fs=>
        have o:=o _ rfl
        split at o
        ·rename_i hc
         have e2:=e.same s2
         obtain ⟨dx,vs,h1,h2⟩:=(e2.st p _ z).2
         obtain ⟨e3,s3⟩:=e2.put (p:=p) (o:=.ins c fs) (o':=.ins c (fV f d fs)) (u:=.ins (dE X.K c) dx (eZ f v vs)) z h1 trivial λH3 x3 h3=>⟨dx,_,h3,(h2.mono x3 λ_ z=>z).eZ ((hv.same s2).mono x3 λ_ z=>z)⟩
         exact ⟨p,_,dx,vs,hv2,h1,(F c hc.1).1,(F c hc.1).2,by rw [h2.len]; exact hc.2,o B' P σ _ s3 e3⟩
        ·exact o.elim
      | dct _=>exact (o _ rfl).elim
      | ls _=>exact (o _ rfl).elim
  | _=>exact (o _ rfl).elim⟩
theorem sZ (hr:bI k X.A) (ho:DE X E o mo) (hi:DE X E i mk) (he:WE X E e mx) (hs:swapsWith e (some (.Subscript o i pos')) pos.line X.env = pure false:=by rfl):WS X E (.Assign [.Subscript o i pos'] e pos) (kH mo mk mx):=(Il (tM hr) ho hi he hs).imp λD σ H ⟨B,P,ρ,r,o⟩=>
 kj r o λd τ v B' H' s e hv o=>⟨B',P,_,e,kf e o λa H2 s2 _ o v2 hv2=>⟨B',P,_,e.same s2,kf (e.same s2) o λy H3 s3 _ o v3 hv3=>by
  dsimp only at o
  unfold y8 at o
  cases a with
  | ob p=>
    dsimp only at o
    cases z:τ p with
    | none=>rw [z] at o; exact (o _ rfl).elim
    | some u=>
      rw [z] at o
      cases u with
      | dct kvs=>
        cases hk:kP y with
        | none=>rw [hk] at o; exact (o _ rfl).elim
        | some k=>
          rw [hk] at o
          have o:=o _ rfl
          split at o
          ·rename_i hc
           have e2:=e.same (s2.trans s3)
           obtain ⟨vs,h1,h2⟩:=(e2.st p _ z).2
           obtain ⟨e3,s4⟩:=e2.put (p:=p) (o:=.dct kvs) (o':=.dct (fS kvs k d)) (u:=.dK (putK vs k v)) z h1 trivial λH4 x4 h4=>⟨_,h4,(h2.mono x4 λ_ z=>z).putK ((hv.same (s2.trans s3)).mono x4 λ_ z=>z)⟩
           exact ⟨p,_,hv2,⟨vs,k,h1,xK hv3.b hk,by rw [h2.len]; exact hc,rfl⟩,o B' P σ _ s4 e3⟩
          ·exact o.elim
      | ins _ _=>exact (o _ rfl).elim
      | ls _=>exact (o _ rfl).elim
  | _=>exact (o _ rfl).elim⟩⟩
theorem N4 (ho:DE X E o mo) (he:DE X E e me) (hst:isStar e = false:=by rfl)
  (hbase:attributeBase o "append" X.env (eval o X.env) = eval o X.env:=by rfl)
  (hfew:((backTo cpos (starEach [e] X.env)).all (λx=>!x.1) && (backToKw cpos (keywordEach [] X.env)).all (λx=>x.1.isSome)
   && decide (([e]:List Expr).length+ ([]:List Keyword).length+ (if ([]:List Keyword).isEmpty then 0 else 1) < 30)) = true:=by rfl)
  (hline:(apos.endLine == cpos.line) = true:=by rfl)
  (hs:swapsWith (.Call (.Attribute o "append" apos) [e] [] cpos) none pos.line X.env = pure false:=by rfl):
  WS X E (.Expr (.Call (.Attribute o "append" apos) [e] [] cpos) pos) (xj mo me):=
 (mi (LJ X.K PySem.F.plainAttrs_list PySem.F.slot_list_append PySem.F.type_list_append oR ho (d6 he dm hst) rfl hbase hfew hline (b5 hst) (cu rfl)) hs).imp λD σ H ⟨B,P,ρ,r,o⟩=>
 ⟨B,P,ρ,r,kf r o λa H2 s2 _ o v2 hv2=>by
   unfold vT at o
   cases a with
   | ob p=>
     dsimp only at o
     cases z:ρ.t p with
     | none=>rw [z] at o; exact (o _ rfl).elim
     | some u=>
       rw [z] at o
       cases u with
       | ls l=>
         have e1:=r.same s2
         obtain ⟨xs,h1,h2,h3⟩:=(e1.st p _ z).2
         rw [show v2 = _ from hv2]
         refine ⟨.inl ⟨rfl,xs,cR.of h1⟩,B,P,ρ,e1,kf e1 o λd H3 s3 _ o v3 hv3=>?_⟩
         have e3:=e1.same s3
         have o:=o _ rfl
         split at o
         ·rename_i hc
          obtain ⟨e4,s4⟩:=e3.put (p:=p) (o:=.ls l) (o':=.ls (l++[d])) (u:=.lst (xs++[v3])) z (s3 _ _ h1) trivial λH4 x4 h4=>⟨_,h4,by rw [List.length_append]; exact hc,((h3.same s3).mono x4 λ_ z=>z).app (.one (hv3.mono x4 λ_ z=>z))⟩
          exact ⟨p,xs,v3,rfl,rfl,s3 _ _ h1,by rw [h3.len]; exact hc,o B P σ _ s4 e4⟩
         ·exact o.elim
       | ins _ _=>exact (o _ rfl).elim
       | dct _=>exact (o _ rfl).elim
   | _=>exact (o _ rfl).elim⟩
theorem a7.NM {K:W.Frag} {Z Z':Addr->Prop} {H:Hp} {d:List Dv} {v:List V} (h:a7 K Z H d v) (hz:∀ a,Z' a->Z a\/H a = none):a7 K Z' H d v:=h.weak hz
def Gq (K:W.Frag) (mg:Str->Option Value) (Z:Addr->Prop) (τ:cw) (H:Hp) (E:XK) (r:Rw) (Q:VK):Prop:=match r with
 | .ok d τ'=>∀ v Z' H',Sw Z qD τ H Z' qD τ' H'->lA Z' H'->oi K Z' τ' H'->Rp K Z' H' d v->Q v H'
 | .ex c τ'=>∀ Z' H',Sw Z qD τ H Z' qD τ' H'->lA Z' H'->oi K Z' τ' H'->E (.ref (aR mg c)) none H'
 | .bad=>False
def jN (K:W.Frag) (mg:Str->Option Value) (k:Nat) (f:DX):Sp:=λvs H Q E=>∃ Z τ ds,lA Z H/\oi K Z τ H/\a7 K Z H ds vs/\ds.length = k/\∀ r,f τ ds r->Gq K mg Z τ H E r Q
theorem j6 {K:W.Frag} {mg:Str->Option Value} {B P:Addr->Prop} {ρ:Ev} {σ:St} {H:Hp} {E:XK} {Q:VK} {r:Rw} (e:aM K B P ρ σ H) (o:nH K mg B P ρ σ H E r Q):Gq K mg (ZU B P) ρ.t H E r Q:=by
 cases r with
 | ok d τ'=>
   intro v Z' H' s al t hv
   obtain ⟨e',s'⟩:=e.Ol s al t
   refine o v _ H' s' e' (hv.weak λa z=>?_)
   rcases z with (z | z) | z
   ·exact .inl (s.subB a (.inl z))
   ·exact .inl z.1
   ·exact .inl (s.subB a (.inr z))
 | ex c τ'=>
   intro Z' H' s al t
   obtain ⟨e',s'⟩:=e.Ol s al t
   exact o _ H' s' e'
 | bad=>exact o
theorem nH.mono {K:W.Frag} {mg:Str->Option Value} {B P B1:Addr->Prop} {ρ:Ev} {σ:St} {H H1:Hp} {τ1:cw} {E:XK} {Q:VK} {r:Rw} (o:nH K mg B P ρ σ H E r Q) (s:Sw B P ρ.t H B1 P τ1 H1):nH K mg B1 P ⟨ρ.c,τ1⟩ σ H1 E r Q:=by
 cases r with
 | ok d τ'=>exact λv B' H' s' e hv=>o v B' H' (s.trans s') e hv
 | ex c τ'=>exact λB' H' s' e=>o B' H' (s.trans s') e
 | bad=>exact o
theorem x_call {f:DX} {n:Nat} {ps:List Str} (px:PX X E) (C:Callee X.prog X.w X.K X.mg X.base (dF X.prog X.w) x j ps (jN X.K X.mg n f)) (hr:bI k X.A) (ha:DA X E (e::es) ms) (hj:j<=k:=by first | decide | omega) (hg:Gl X x:=by rfl) (hdb:(x == ("__debug__":Str)) = false:=by decide)
  (he:isStar e = false:=by rfl) (hpl:es.all (λe=>!isStar e) = true:=by rfl):WE X E (.Call (.Name x p) (e::es) [] pos) (iq n f ms):=
 (p4 px C hr ha hj hg hdb (b5 he) (cu hpl)).imp λσ H Q ⟨B,P,ρ,r,o⟩=>by
  refine ⟨B,P,ρ,r,?_⟩
  unfold iq at o
  cases z:ms ρ with
  | ok l=>
    rw [z] at o
    intro H1 s1 vs hv
    show jN X.K X.mg n f (vs++[]) H1 Q E
    rw [List.append_nil]
    by_cases hl:l.length = n
    ·refine ⟨ZU B P,ρ.t,l,(r.same s1).old,(r.same s1).st,hv,hl,λr1 h1=>j6 (r.same s1) (nH.mono (o r1 (by dsimp only; rw [if_pos hl]; exact h1)) (Sw.same s1))⟩
    ·exact (o .bad (by dsimp only; rw [if_neg hl])).elim
  | ex c=>rw [z] at o; exact λH' s=>o (.ex c ρ.t) rfl B H' (.same s) (r.same s)
  | bad=>rw [z] at o; exact o .bad rfl
theorem kO:WE X E (.Dict [] [] pos) jC:=FD.imp λσ H Q ⟨B,P,ρ,r,o⟩=>λa hn=>by
 have s:aK H (upd H a (.dK [])):=(aK.refl _).upd hn
 obtain ⟨e,s'⟩:=r.make (o:=.dct []) hn s ⟨[],bj,rfl⟩
 have tn:ρ.t a = none:=by
  cases z:ρ.t a with
  | none=>rfl
  | some u=>obtain ⟨u',hu,_⟩:=(r.st a u z).2.at; rw [hn] at hu; cases hu
 exact o _ ⟨a,tn,rfl⟩ _ _ _ s' e rfl
theorem EJ:WE X E (.List [] pos) sU:=(Ew dm).imp λσ H Q ⟨B,P,ρ,r,o⟩=>⟨Nat.zero_le _,λa hn=>by
 have s:aK H (upd H a (.lst [])):=(aK.refl _).upd hn
 obtain ⟨e,s'⟩:=r.make (o:=.ls []) hn s ⟨[],bj,Nat.zero_le _,rfl⟩
 have tn:ρ.t a = none:=by
  cases z:ρ.t a with
  | none=>rfl
  | some u=>obtain ⟨u',hu,_⟩:=(r.st a u z).2.at; rw [hn] at hu; cases hu
 exact o _ ⟨a,tn,rfl⟩ _ _ _ s' e rfl⟩
def Maker (P:Program) (w:World) (K:W.Frag) (mg:Str->Option Value) (base:Heap) (c:Str) (j n:Nat) (f:DX):Prop:=∃ fa fd ps,mg c = some (.ref (dE K c))/\Mk K (dE K c) fa/\Binds K fd ps []/\dG P w K mg base (dF P w) j fa fd ps (jN K mg n f)
theorem AM {f:DX} {n:Nat} {σ:St} {H:Hp} {Q:VK} (h:tX X.K X.mg E (fW x n f ms) σ H Q):CB (dE X.K x) (jN X.K X.mg n f) [] E (HY X.K X.mg E ms) σ H Q:=by
 obtain ⟨B,P,ρ,r,o⟩:=h
 refine ⟨B,P,ρ,r,?_⟩
 unfold fW at o
 cases z:ms ρ with
 | ok l=>
   rw [z] at o
   intro H1 s1 vs hv a dx hna hnd hne
   dsimp only at o
   by_cases hl:l.length+1 = n
   ·have r1:=r.same s1
    have hna':(upd H1 dx (.own a)) a = none:=by rw [aZ (Ne.symm hne)]; exact hna
    have s2:aK H1 (upd (upd H1 dx (.own a)) a (.ins (dE X.K x) dx [])):=((aK.refl _).upd hnd).trans ((aK.refl _).upd hna')
    obtain ⟨e2,w2⟩:=r1.make (o:=.ins x []) hna s2 ⟨dx,[],bj,rfl⟩
    have tn:ρ.t a = none:=by
     cases z:ρ.t a with
     | none=>rfl
     | some u=>obtain ⟨u',hu,_⟩:=(r1.st a u z).2.at; rw [hna] at hu; cases hu
    rw [List.append_nil]
    refine ⟨ZU (λb=>B b\/b = a) P,aF ρ.t a (.ins x []),.ob a::l,e2.old,e2.st,⟨_,_,rfl,rfl,(hv.NM λb z=>?_).same s2⟩,by simpa using hl,λr1 h1=>j6 e2 ?_⟩
    ·rcases z with (z | z) | z
     ·exact .inl (.inl z)
     ·exact .inr (z▸hna)
     ·exact .inl (.inr z)
    ·have o:=o (wx a r1) (by rw [if_pos hl]; exact ⟨a,r1,tn,h1,rfl⟩)
     cases r1 with
     | ok d τ'=>
       cases d with
       | non=>exact λv B' H' s' e' hv'=>⟨hv',o _ B' H' ((Sw.same s1).trans (w2.trans s')) e' rfl⟩
       | _=>exact o.elim
     | ex c τ'=>exact λB' H' s' e'=>o B' H' ((Sw.same s1).trans (w2.trans s')) e'
     | bad=>exact o.elim
   ·exact (o .bad (by rw [if_neg hl])).elim
 | ex c=>rw [z] at o; exact λH' s=>o (.ex c ρ.t) rfl B H' (.same s) (r.same s)
 | bad=>rw [z] at o; exact o .bad rfl
theorem pj {f:DX} {n:Nat} (px:PX X E) (M:Maker X.prog X.w X.K X.mg X.base x j n f) (hr:bI (k+1) X.A) (ha:DA X E (e::es) ms) (hj:j<=k:=by first | decide | omega) (hg:Gl X x:=by rfl) (hdb:(x == ("__debug__":Str)) = false:=by decide)
  (he:isStar e = false:=by rfl) (hpl:es.all (λe=>!isStar e) = true:=by rfl):WE X E (.Call (.Name x p) (e::es) [] pos) (fW x n f ms):=by
 obtain ⟨fa,fd,ps,h1,h2,h3,h4⟩:=M
 exact (Io h2 h4 (hr.mono (Nat.succ_le_succ hj)) hg h1 h3 .nil px.pass ha hdb (b5 he) (cu hpl)).imp λσ H Q h=>AM h
theorem JI {f:DX} {n:Nat} (px:PX X E) (M:Maker X.prog X.w X.K X.mg X.base x j n f) (hr:bI (k+1) X.A) (hj:j<=k:=by first | decide | omega) (hg:Gl X x:=by rfl) (hdb:(x == ("__debug__":Str)) = false:=by decide):WE X E (.Call (.Name x p) [] [] pos) (fW x n f ai):=by
 obtain ⟨fa,fd,ps,h1,h2,h3,h4⟩:=M
 refine (GZ h2 h4 (hr.mono (Nat.succ_le_succ hj)) hg h1 h3 .nil px.pass hdb).imp λσ H Q h=>?_
 obtain ⟨B,P,ρ,r,o⟩:=AM h
 exact o H (aK.refl _) [] rfl
def eS (c m:Str) (n:Nat) (f:DX) (mo:ME) (ms:MA):MX:=λρ r=>match mo ρ with
 | .ok d=>(match iw ρ.t d with
   | some (p,c',fs)=>if c' = c/\fs.lookup m = none then (match ms ρ with
     | .ok l=>if l.length+1 = n then f ρ.t (.ob p::l) r else r = .bad
     | .ex c=>r = .ex c ρ.t
     | .bad=>r = .bad) else r = .bad
   | none=>r = .bad)
 | .ex c=>r = .ex c ρ.t
 | .bad=>r = .bad
def kD (P:Program) (w:World) (K:W.Frag) (mg:Str->Option Value) (base:Heap) (c m:Str) (j n:Nat) (f:DX):Prop:=∃ fa fd ps,je K (dE K c)/\Meth K (dE K c) m fa/\Binds K fd ps []/\dG P w K mg base (dF P w) j fa fd ps (jN K mg n f)
theorem AB {τ:cw} {d:Dv} {p:Addr} {c:Str} {fs:List (Str×Dv)} (h:iw τ d = some (p,c,fs)):d = .ob p/\τ p = some (.ins c fs):=by
 unfold iw at h
 cases d with
 | ob a=>
   dsimp only at h
   cases z:τ a with
   | none=>rw [z] at h; cases h
   | some u=>
     rw [z] at h
     cases u with
     | ins c' fs'=>cases h; exact ⟨rfl,z⟩
     | dct _=>cases h
     | ls _=>cases h
 | _=>cases h
theorem iZ {mm c:Str} {f:DX} {n:Nat} {apos:Pos} {pl:Sem Bool} (px:PX X E) (M:kD X.prog X.w X.K X.mg X.base c mm j n f) (hr:bI k X.A) (ho:DE X E o mo) (ha:DA X E (e::es) ms) (hj:j<=k:=by first | decide | omega)
  (he:isStar e = false:=by rfl) (hpl:es.all (λe=>!isStar e) = true:=by rfl)
  (ht:eval (.Call (.Attribute o mm apos) (e::es) [] pos) X.env = (do
   let ov ←eval o X.env
   standAt apos.atName
   let (f,first) ←holding [ov] (getMethod ov mm pl)
   callWith pos f first (backTo pos (starEach (e::es) X.env)) (backToKw pos (keywordEach [] X.env))):=by rfl):
  WE X E (.Call (.Attribute o mm apos) (e::es) [] pos) (eS c mm n f mo ms):=by
 obtain ⟨fa,fd,ps,h1,h2,h3,h4⟩:=M
 refine (A4 ho h1 h2 h4 (hr.mono hj) h3 .nil px.pass ha (b5 he) (cu hpl) ht).imp λσ H Q ⟨B,P,ρ,r,o⟩=>⟨B,P,ρ,r,?_⟩
 unfold eS at o
 cases z:mo ρ with
 | ex c=>rw [z] at o; exact λH' s=>o (.ex c ρ.t) rfl B H' (.same s) (r.same s)
 | bad=>rw [z] at o; exact o .bad rfl
 | ok d=>
   rw [z] at o
   dsimp only at o
   cases zi:iw ρ.t d with
   | none=>rw [zi] at o; exact (o .bad rfl).elim
   | some t=>
     obtain ⟨a,c',fs⟩:=t
     rw [zi] at o
     dsimp only at o
     obtain ⟨hd,ht⟩:=AB zi
     by_cases hc:c' = c/\fs.lookup mm = none
     ·simp only [if_pos hc] at o
      obtain ⟨hc1,hc2⟩:=hc
      subst hc1 hd
      intro H1 s1 v hv
      obtain ⟨dx,vs,g1,g2⟩:=((r.same s1).st a _ ht).2
      have hl:vs.lookup mm = none:=by
       clear o z zi ht g1
       induction fs generalizing vs with
       | nil=>rw [show vs = [] from g2]; rfl
       | cons y l ih=>
         obtain ⟨f0,d0⟩:=y
         obtain ⟨w0,s0,e0,_,e2⟩:=g2
         subst e0
         by_cases hk:mm = f0
         ·subst hk; rw [List.lookup_cons_self] at hc2; cases hc2
         ·have hb:(mm == f0) = false:=by simpa using hk
          rw [List.lookup_cons,hb] at hc2 ⊢
          exact ih hc2 _ e2
      refine ⟨a,dx,vs,hv,g1,hl,B,P,ρ,r.same s1,?_⟩
      cases z2:ms ρ with
      | ex c=>rw [z2] at o; exact λH' s=>o (.ex c ρ.t) rfl B H' (.same (s1.trans s)) (r.same (s1.trans s))
      | bad=>rw [z2] at o; exact o .bad rfl
      | ok l=>
        rw [z2] at o
        intro H2 s2 us hus
        dsimp only at o
        rw [List.append_nil]
        by_cases hl2:l.length+1 = n
        ·simp only [if_pos hl2] at o
         exact ⟨ZU B P,ρ.t,.ob a::l,(r.same (s1.trans s2)).old,(r.same (s1.trans s2)).st,⟨_,_,rfl,hv,hus⟩,by simpa using hl2,λr1 h1=>j6 (r.same (s1.trans s2)) (nH.mono (o r1 h1) (Sw.same (s1.trans s2)))⟩
        ·simp only [if_neg hl2] at o; exact (o .bad rfl).elim
     ·simp only [if_neg hc] at o; exact (o .bad rfl).elim
end
end L2
end
section
namespace L2
open PySem PySem.Spec PyProof.Rows
def Bv:Fw->Rw
 | .nx ρ=>.ok .non ρ.t | .rt d τ=>.ok d τ | .ex c τ=>.ex c τ | _=>.bad
def d3 (n:Nat) (m:MW):DX:=λτ ds r=>∃ r1,m (aE n τ ds) r1/\r = Bv r1
section
variable {P:Program} {w:World} {K:W.Frag} {mg:Str->Option Value} {base:Heap} {x:Str} {st:Stmt} {N ps:List Str} {k:Nat}
theorem He (hz:lA Z H) (ht:oi K Z τ H) (h:a7 K Z H ds vs) (hl:ds.length<=N.length) (o:∀ r,d3 N.length m τ ds r->Gq K mg Z τ H E r Q):
  tW K mg E m { nx:=λ_ H'=>Q .non H',rt:=Q } (start N vs) H:=by
 refine ⟨Z,qD,aE N.length τ ds,oN hz ht h hl,λr1 h1=>?_⟩
 have o:=o _ ⟨r1,h1,rfl⟩
 cases r1 with
 | nx ρ=>exact λB' P' σ' H' s e=>o .non B' H' s.drop e.alive e.HG rfl
 | bk ρ=>exact o.elim
 | ct ρ=>exact o.elim
 | rt d τ'=>exact λv B' H' s al t hv=>o v B' H' s al t hv
 | ex c τ'=>exact o
 | bad=>exact o.elim
theorem Ms (F:qI K x qual st f fd) (S:aD N ps (ah st)) (hps:ps.length<=N.length)
  (hbody:∀ (cdv:Value) (A:Around) (outer:List Env) (s:Shared) (H:Hp) (E:XK),bI k (A.deeper (envOfC qual (ah st) s.heap.objs.size f cdv))->jf (fT (dF P w) P w K mg base N qual (ah st) f cdv A outer s H E) E (c9 st) m):
  dG P w K mg base (dF P w) (k+1) f fd ps (jN K mg ps.length (d3 N.length m)):=by
 have len:∀ vs H Q E,jN K mg ps.length (d3 N.length m) vs H Q E->vs.length = ps.length:=λvs H Q E ⟨Z,τ,ds,h1,h0,h2,hl,h3⟩=>by rw [h2.len]; exact hl
 refine F.Lz S len λcdv A outer s H vs Q E hr ⟨Z,τ,ds,h1,h0,h2,hl,h3⟩=>?_
 exact ⟨_,hbody cdv A outer s H E hr,He h1 h0 h2 (by rw [hl]; exact hps) h3⟩
theorem Jm (F:HasDef K mg x st ps) (S:aD N ps (ah st)) (hps:ps.length<=N.length)
  (hbody:∀ (f:Addr) (cdv:Value) (A:Around) (outer:List Env) (s:Shared) (H:Hp) (E:XK),bI k (A.deeper (envOfC x (ah st) s.heap.objs.size f cdv))->jf (fT (dF P w) P w K mg base N x (ah st) f cdv A outer s H E) E (c9 st) m):
  Callee P w K mg base (dF P w) x (k+1) ps (jN K mg ps.length (d3 N.length m)):=by
 have len:∀ vs H Q E,jN K mg ps.length (d3 N.length m) vs H Q E->vs.length = ps.length:=λvs H Q E ⟨Z,τ,ds,h1,h0,h2,hl,h3⟩=>by rw [h2.len]; exact hl
 refine F.Ee S len λf cdv A outer s H vs Q E hr ⟨Z,τ,ds,h1,h0,h2,hl,h3⟩=>?_
 exact ⟨_,hbody f cdv A outer s H E hr,He h1 h0 h2 (by rw [hl]; exact hps) h3⟩
end
def Ku (k:MW):Fw->Fw->Prop
 | .nx ρ,r=>k ρ r
 | .ct ρ,r=>k ρ r
 | .bk ρ,r=>r = .nx ρ
 | r1,r=>r = r1
def gm (g:Dv->Ev->Rs Ev) (b:MW):List Dv->MW
 | [],ρ,r=>r = .nx ρ
 | d::l,ρ,r=>match g d ρ with
   | .ok ρ1=>(ρ1.t = ρ.t/\∃ r1,b ρ1 r1/\Ku (gm g b l) r1 r)\/(ρ1.t≠ρ.t/\r = .bad)
   | _=>r = .bad
def u6 (it:MA) (g:Dv->Ev->Rs Ev) (b:MW):MW:=fR it λl=>gm g b l
section
theorem BL (hp:PassesOwn (model X.prog X.w) X.A X.env X.xe) (hi:DI X E false tg e ms) (hg:DG X tg g) (hb:jf X E body w) (hc:X.calm = true:=by rfl)
  (hs:∀ x,foldedSetIterable e X.env x = pure x:=by intro _; rfl):WS X E (.For tg e body [] pos) (u6 ms g w):=(Fc hp hc hi hg hb hs).imp λD σ H ⟨B,P,ρ,r,o⟩=>
 ⟨B,P,ρ,r,kf r o λitems H1 s1 _ o1 J jw hlen=>by
   have r1:=r.same s1
   refine ⟨λi m σ2 H2=>m = items.length - i/\i<=items.length/\∃ B2 P2 ρ2,aM X.K B2 P2 ρ2 σ2 H2/\Sw B P ρ.t H1 B2 P2 ρ2.t H2/\∀ r,gm g w (items.drop i) ρ2 r->gH X.K X.mg B2 P2 ρ2.t H2 E r D,⟨items.length,by simp,Nat.zero_le _,B,P,ρ,r1,.refl,by rw [List.drop_zero]; exact o1⟩,?_⟩
   rintro i m σ2 H2 ⟨rfl,hi,B2,P2,ρ2,r2,st2,o2⟩
   have j:=jw (ZU B2 P2) i H2 (λa z=>by
    rcases z with z | z
    ·exact (st2.rb a z).imp .inl id
    ·exact (st2.yM a z).imp .inr id) (st2.ext r1.hb) nofun
   by_cases hlt:i < items.length
   ·have e:items.drop i = items[i]::items.drop (i+1):=List.drop_eq_getElem_cons hlt
    rw [e] at o2
    obtain ⟨go,yl⟩:=j.1 items[i] (by simp [hlt])
    refine .inr ⟨go,λσ' H'=>∃ B3 P3 ρ3,aM X.K B3 P3 ρ3 σ' H'/\Sw B P ρ.t H1 B3 P3 ρ3.t H'/\∀ r,gm g w (items.drop (i+1)) ρ3 r->gH X.K X.mg B3 P3 ρ3.t H' E r D,λσ' H' h=>⟨items.length - (i+1),by omega,rfl,hlt,h⟩,λv H' y=>?_⟩
    obtain ⟨sm,hv⟩:=yl v H' y
    have r3:=r2.same sm
    have st3:Sw B P ρ.t H1 B2 P2 ρ2.t H':=st2.trans (.same sm)
    replace o2:∀ r,gm g w (items[i]::items.drop (i+1)) ρ2 r->gH X.K X.mg B2 P2 ρ2.t H' E r D:=λr hr=>(o2 r hr).mono (.same sm)
    unfold gm at o2
    cases z:g items[i] ρ2 with
    | ok ρ3=>
      rw [z] at o2
      refine ⟨B2,P2,ρ2,items[i],ρ3,r3,hv,z,λσ3 r4=>⟨B2,P2,ρ3,r4,λr5 h5=>?_⟩⟩
      by_cases ht:ρ3.t = ρ2.t
      ·cases r5 with
       | nx ρ'=>exact λB4 P4 σ4 H4 st4 r5=>⟨B4,P4,ρ',r5,st3.trans (by rw [←ht]; exact st4),λr hr=>(o2 r (.inl ⟨ht,_,h5,hr⟩)).mono (by rw [←ht]; exact st4)⟩
       | ct ρ'=>exact λB4 P4 σ4 H4 st4 r5=>⟨B4,P4,ρ',r5,st3.trans (by rw [←ht]; exact st4),λr hr=>(o2 r (.inl ⟨ht,_,h5,hr⟩)).mono (by rw [←ht]; exact st4)⟩
       | bk ρ'=>rw [ht]; exact o2 (.nx ρ') (.inl ⟨ht,_,h5,rfl⟩)
       | rt d τ'=>rw [ht]; exact o2 (.rt d τ') (.inl ⟨ht,_,h5,rfl⟩)
       | ex c τ'=>rw [ht]; exact o2 (.ex c τ') (.inl ⟨ht,_,h5,rfl⟩)
       | bad=>exact (o2 .bad (.inl ⟨ht,_,h5,rfl⟩)).elim
      ·exact (o2 .bad (.inr ⟨ht,rfl⟩)).elim
    | ex c=>rw [z] at o2; exact (o2 .bad rfl).elim
    | bad=>rw [z] at o2; exact (o2 .bad rfl).elim
   ·have e:items.drop i = []:=List.drop_eq_nil_of_le (by omega)
    rw [e] at o2
    exact .inl ⟨j.2 (by omega),o2 (.nx ρ2) rfl B2 P2 σ2 H2 .refl r2⟩⟩
end
end L2
end
section
namespace L2
open PySem PySem.W PySem.Spec PySem.Calls PyProof.Rows Builtin Builtin.ObjectAttr Builtin.Getset_descriptor
section
variable {prog:Program} {w:World} {A:Around} {E:Value->Shared->Prop} {s:Shared} {K:Frag} {x D:Addr} {M:Model} {h:Heap}
structure Lr (K:Frag) (D:Addr):Prop where
 ga:findIn K (.ref D) "__getattribute__" = some (some (.builtin "BaseException.__getattribute__"))
 gh:findIn K (.ref D) "__getattr__" = some none
 at_:findIn K (.ref D) "__class__" = some (some (.builtin "object.__class__"))
 gt:specialIn K (.builtin "object.__class__") "__get__" = some (some (.builtin "getset_descriptor.__get__"))
 tk:takesIn K (.builtin "object.__class__") = some true
 mr:mroIn K D (.type "object") = some true
 mb:mroIn K D (.type "BaseException") = some true
end
end L2
end
section
namespace L2
open PySem PySem.Spec PyProof.Rows
section
end
end L2
end
section
namespace L2
open PySem PySem.Spec PyProof.Rows
def HZ (K:W.Frag) (mg:Str->Option Value) (sub:Str->Str->Option Bool):Prop:=∀ c h b,sub c h = some b->Mt K (.ref (aR mg c)) (aR mg h) b/\aR mg c = dE K c
def PQ (K:W.Frag) (mg:Str->Option Value) (sub:Str->Str->Option Bool):Prop:=∀ c h b,sub c h = some b->Lr K (dE K c)/\PySem.W.kitOne K (.ref (dE K c)) (.ref (aR mg h)) = some b
def wA:Fw->Fw
 | .ex _ _=>.bad
 | r=>r
def Mv (i:Nat):Fw->Fw
 | .nx ρ=>.nx (ρ.set i none) | .bk ρ=>.bk (ρ.set i none) | .ct ρ=>.ct (ρ.set i none) | r=>r
def nu (sub:Str->Str->Option Bool) (c:Str) (ρ:Ev):List (Str×Option Nat×MW)->Fw->Prop
 | [],r=>r = .bad
 | (h,n,m)::l,r=>match sub c h with
   | some true=>(match n with
     | none=>∃ r1,m ρ r1/\r = wA r1
     | some i=>∃ r1,m (ρ.set i (some (.v (.exc c)))) r1/\r = Mv i (wA r1))
   | some false=>nu sub c ρ l r
   | none=>r = .bad
def Oi (K:W.Frag) (mg:Str->Option Value) (E:XK) (sub:Str->Str->Option Bool) (hs:List (Str×Option Nat×MW)):Value->TS:=λcls D σ H=>∃ c B P ρ,cls = .ref (aR mg c)/\aM K B P ρ σ H/\∀ r,nu sub c ρ hs r->gH K mg B P ρ.t H E r D
abbrev Ie (X:Cx) (E:XK) (sub:Str->Str->Option Bool) (l:List ExceptHandler) (hs:List (Str×Option Nat×MW)):Prop:=v5 X l (Oi X.K X.mg E sub hs)
section
variable {X:Cx} {E:XK} {q:Bool} {st:Stmt} {rest:List ExceptHandler} {body suite:List Stmt} {w u:MW} {a e:Expr} {ma:ME} {mx:MX} {pos np p p2:Pos} {x n:Str} {b₀:Stmt} {sub:Str->Str->Option Bool} {hs:List (Str×Option Nat×MW)} {h₀:ExceptHandler} {F:List Nat}
theorem C8:Ie X E sub [] []:=JO.imp λc D σ H ⟨_,_,_,_,_,_,o⟩=>o .bad rfl
theorem FN {K:W.Frag} {mg:Str->Option Value} {B P:Addr->Prop} {τ:cw} {H:Hp} {r:Fw} {D:Ends} (o:gH K mg B P τ H E (wA r) D):gH K mg B P τ H E0 r D:=by
 cases r with
 | ex c τ'=>exact o.elim
 | _=>exact o
theorem AW (S:HZ X.K X.mg sub) (hm:X.mg x = some (.ref (aR X.mg x))) (hb:∀ ea,jf (X.within ea) E0 (b₀::suite) w) (hr:Ie X E sub rest hs) (hna:X.dZ = none:=by rfl) (hhd:X.calm = true:=by rfl) (hg:Gl X x:=by rfl) (hdb:(x == ("__debug__":Str)) = false:=by decide):
  Ie X E sub (.ExceptHandler (some (.Name x np)) none (b₀::suite) pos::rest) ((x,none,w)::hs):=(FW (th:=tW X.K X.mg E0 w) hm hb hr hna hhd hg hdb).imp λcls D σ H ⟨c,B,P,ρ,hc,r,o⟩=>by
 subst hc
 unfold nu at o
 cases z:sub c x with
 | none=>rw [z] at o; exact (o .bad rfl).elim
 | some b=>
   rw [z] at o
   cases b with
   | true=>exact ⟨true,(S c x true z).1,Bq ⟨B,P,ρ,r,λr1 h1=>FN (o _ ⟨r1,h1,rfl⟩)⟩⟩
   | false=>exact ⟨false,(S c x false z).1,Bs ⟨c,B,P,ρ,rfl,r,o⟩⟩
def zb (i:Option Nat) (sub:Str->Str->Option Bool) (F:List Nat) (m:MX) (hs:List (Str×Option Nat×MW)):MW:=λρ r=>∃ r1,m ρ r1/\match r1 with
 | .ok d τ=>r = .nx (match i with | some i=>(⟨ρ.c,τ⟩:Ev).set i (some (.v d)) | none=>⟨ρ.c,τ⟩)
 | .ex c τ=>nu sub c (kh F ⟨ρ.c,τ⟩) hs r
 | .bad=>r = .bad
theorem EY (F:List Nat) (ρ:Ev):(kh F ρ).t = ρ.t:=by
 unfold kh
 induction F generalizing ρ with
 | nil=>rfl
 | cons i l ih=>rw [List.foldl_cons,ih]; rfl
theorem Lg (h:tW X.K X.mg E (zb i sub F mx hs) D σ H)
  (hb:∀ E',(tX X.K X.mg E' mx σ H λv H1=>D.nx (match i with | some i=>σ.set i (some v) | none=>σ) H1)->tb E' D σ H):Mi F tb (Oi X.K X.mg E sub hs) D σ H:=by
 obtain ⟨B,P,ρ,r,o⟩:=h
 refine ⟨λcls dx H'=>∃ c τ' B',cls = .ref (aR X.mg c)/\mx ρ (.ex c τ')/\Sw B P ρ.t H B' P τ' H'/\aM X.K B' P ⟨ρ.c,τ'⟩ σ H',hb _ ⟨B,P,ρ,r,λr1 h1=>?_⟩,λcls dx H' ⟨c,τ',B',h1,h2,h3,h4⟩=>?_⟩
 ·cases r1 with
  | ok d τ'=>
    have o:=o _ ⟨_,h1,rfl⟩
    intro v B' H' s e hv
    cases i with
    | none=>exact o B' P σ H' s e
    | some i=>exact o B' P _ H' s (e.set i hv)
  | ex c τ'=>exact λB' H' s e=>⟨c,τ',B',rfl,h1,s,e⟩
  | bad=>exact o .bad ⟨_,h1,rfl⟩
 ·subst h1
  refine ⟨c,B',P,kh F ⟨ρ.c,τ'⟩,rfl,h4.forget F,λr hr=>?_⟩
  rw [EY]
  exact gH.mono (o r ⟨_,h2,hr⟩) h3
theorem CQ (he:∀ (xe:Value->Shared->Prop) (pn:List (Addr×Obj)) (σ₀:St) (E:XK),PX (X.body xe pn σ₀ F) E->WE (X.body xe pn σ₀ F) E e mx) (hh:Ie X E sub (h₀::rest) hs)
  (hs':swapsWith e none p3.line X.env = pure false:=by rfl) (hst:X.stack = X.env::X.outer:=by rfl) (hfr:X.env.frame = some X.env.locals:=by rfl) (hna:X.dZ = none:=by rfl):
  WS X E (.Try [.Expr e p3] (h₀::rest) [] [] pos) (zb none sub F mx hs):=
 (Mb (tb:=λE'=>BJ (tX X.K X.mg E' mx)) (λxe pn σ₀ E' px=>uA (mi (X:=X.body xe pn σ₀ F) (he xe pn σ₀ E' px) hs')) hh hst hfr hna).imp λD σ H h=>Lg (i:=none) h λE' z=>z
end
end L2
end
section
namespace L2
open PySem PySem.Spec PyProof.Rows
def yo:ME:=λ_=>.bad
def nj (τ:cw):Dv->Rs Dv
 | .ob p=>match τ p with
   | some (.ls l)=>.ok (.lst l)
   | _=>.bad
 | d=>.ok d
def b7 (a:ME):ME:=λρ=>(a ρ).bind (nj ρ.t)
section
variable {X:Cx} {E:XK} {q:Bool} {st:Stmt} {a e o i:Expr} {es:List Expr} {ma mo m me mk:ME} {mx:MX} {ms:MA} {pos np p p2:Pos} {x n:Str} {sub:Str->Str->Option Bool} {k j:Nat}
theorem wD:DE X E e yo:=λpins s σ H Q I ⟨_,_,_,_,o⟩=>o.elim
theorem dj (he:DB X E e m):DB X E e (b7 m):=he.imp λσ H Q ⟨B,P,ρ,r,o⟩=>⟨B,P,ρ,r,o.bind λd H1 _ s1 o1 v hv=>by
 cases d with
 | ob p=>
   unfold nj at o1
   dsimp only at o1
   cases z:ρ.t p with
   | none=>rw [z] at o1; exact o1.elim
   | some u=>
     rw [z] at o1
     cases u with
     | ls l=>
       obtain ⟨xs,h1,h2,h3⟩:=((r.same s1).st p _ z).2
       exact o1.ok v ⟨p,xs,hv,.inl h1,h2,h3⟩
     | ins _ _=>exact o1.elim
     | dct _=>exact o1.elim
 | _=>exact o1.ok v hv⟩
def wO (P:Program) (w:World) (K:W.Frag) (mg:Str->Option Value) (base:Heap) (j:Nat) (v:V) (t:Nat×DX):Prop:=∃ fa fd ps,v = .ref fa/\PySem.W.keepIn K (.ref fa) = true/\Binds K fd ps []/\dG P w K mg base (dF P w) j fa fd ps (jN K mg t.1 t.2)
theorem Fn {P:Program} {w:World} {K:W.Frag} {mg:Str->Option Value} {base:Heap} {j j' n:Nat} {ps:List Str} {f:DX} (C:Callee P w K mg base (dF P w) x j ps (jN K mg n f)) (hj:j<=j'):wO P w K mg base j' (.ref (aR mg x)) (n,f):=by
 obtain ⟨fa,fd,h1,h2,h3,h4⟩:=C
 have e:aR mg x = fa:=by unfold aR; rw [h1]
 rw [e]
 exact ⟨fa,fd,ps,rfl,h2,h3,λvs H Q E q=>h4.len vs H Q E q,λA outer s H args us vs Q E hr=>h4.run A outer s H args us vs Q E (hr.mono hj)⟩
def sE (P:Program) (w:World) (K:W.Frag) (mg:Str->Option Value) (base:Heap) (j:Nat) (kvs:List (Str×V)) (fs:List (Str×Nat×DX)):Prop:=∀ k t,fs.lookup k = some t->∃ v,kvs.lookup k = some v/\wO P w K mg base j v t
def ue (fs:List (Str×Nat×DX)) (y:ME) (a:MA):MX:=λρ r=>match y ρ with
 | .ok (.str k)=>(match fs.lookup k with
   | some t=>iq t.1 t.2 a ρ r
   | none=>r = .bad)
 | .ex c=>r = .ex c ρ.t
 | _=>r = .bad
theorem Oh (px:PX X E) (D:gn X.K X.w X.mg x kvs) (T:sE X.prog X.w X.K X.mg X.base j kvs fs) (hr:bI k X.A) (hy:DB X E y m) (ha:DA X E (e::es) ms) (hj:j<=k:=by first | decide | omega)
  (hs:jj y:=by intro _ _; rfl) (hg:Gl X x:=by rfl) (hdb:(x == ("__debug__":Str)) = false:=by decide) (he:isStar e = false:=by rfl) (hpl:es.all (λe=>!isStar e) = true:=by rfl):
  WE X E (.Call (.Subscript (.Name x p) y p3) (e::es) [] pos) (ue fs m ms):=by
 intro pins s σ H Q I ⟨B,P,ρ,r,o⟩
 unfold ue at o
 refine Call_ (aW (Cj D hy hs hg hdb pins s σ H (λu H1=>∃ t,wO X.prog X.w X.K X.mg X.base j u t/\aK H H1/\∀ r,iq t.1 t.2 ms ρ r->nH X.K X.mg B P ρ σ H E r Q) I ⟨B,P,ρ,r,?_⟩) ?_)
 ·cases z:m ρ with
  | ex c=>rw [z] at o; exact λH' s'=>o (.ex c ρ.t) rfl B H' (.same s') (r.same s')
  | bad=>rw [z] at o; exact o .bad rfl
  | ok d=>
    rw [z] at o
    intro H1 s1 v hv
    cases d with
    | str k=>
      rw [show v = _ from hv.1]
      dsimp only at o ⊢
      cases zf:fs.lookup k with
      | none=>rw [zf] at o; exact (o .bad rfl).elim
      | some t=>
        rw [zf] at o
        obtain ⟨u,h1,h2⟩:=T k t zf
        rw [h1]
        exact ⟨t,h2,s1,o⟩
    | _=>exact (o .bad rfl).elim
 ·rintro u s1 ⟨v,H1,I1,r1,⟨n,f⟩,⟨fa,fd,ps,rfl,h2,h3,h4⟩,sm,o1⟩
  cases r1
  have r':=r.same sm
  refine PySem.W.callWith_K (h₀:=X.base) I.ok.mod.vp h2 (aW (ha pos pins s1 σ H1 (λvs H2=>jN X.K X.mg n f (vs++[]) H2 Q E) I1 ⟨B,P,ρ,r',?_⟩) λus s2 ⟨vs,H2,I2,r2,q2⟩=>⟨I2.gZ,oY h4 (hr.mono hj) h3 .nil px.pass I2 r2 q2⟩) (b5 he) (cu hpl)
  unfold iq at o1
  cases z:ms ρ with
  | ok l=>
    rw [z] at o1
    intro H2 s2 vs hv
    show jN X.K X.mg n f (vs++[]) H2 Q E
    rw [List.append_nil]
    by_cases hl:l.length = n
    ·exact ⟨ZU B P,ρ.t,l,(r'.same s2).old,(r'.same s2).st,hv,hl,λr1 h1=>j6 (r'.same s2) (nH.mono (o1 r1 (by dsimp only; rw [if_pos hl]; exact h1)) (Sw.same (sm.trans s2)))⟩
    ·exact (o1 .bad (by dsimp only; rw [if_neg hl])).elim
  | ex c=>rw [z] at o1; exact λH' s'=>o1 (.ex c ρ.t) rfl B H' (.same (sm.trans s')) (r.same (sm.trans s'))
  | bad=>rw [z] at o1; exact o1 .bad rfl
end
end L2
end
section
namespace L2
open PySem PySem.Spec PyProof.Rows
section
def Nt (to ti tv:TE):TS:=λD σ H=>tv σ H λv H1=>to σ H1 λx H2=>ti σ H2 λy H3=>Hy x y v H3 λH4=>D.nx σ H4
theorem JB (ho:PE X o to) (hi:PE X i ti) (hv:PE X value tv) (hs:swapsWith value (some (.Subscript o i pos')) pos.line X.env = pure false):PS X (.Assign [.Subscript o i pos'] value pos) (Nt to ti tv):=by
 intro pins s σ H D I h
 refine wpAny_Assign_Subscript (aW (hv pins s σ H _ I h) λr s1 ⟨v,H1,I1,rv,q1⟩=>aW (ho pins s1 σ H1 _ I1 q1) λu s2 ⟨x,H2,I2,rx,q2⟩=>aW (hi pins s2 σ H2 _ I2 q2) λiv s3 ⟨y,H3,I3,ry,q3⟩=>?_) hs
 exact aW (set_list pins s3 σ H3 x y v u iv r _ I3 rx ry rv q3) λ_ s4 ⟨H4,I4,q4⟩=>⟨σ,H4,I4,q4⟩
theorem a7.set {K:W.Frag} {Z:Addr->Prop} {H:Hp} {d:Dv} {v:V}:∀ {l:List Dv} {xs:List V} (k:Nat),a7 K Z H l xs->Rp K Z H d v->a7 K Z H (l.set k d) (xs.set k v)
 | [],_,_,h,_=>by rw [show _ = [] from h]; rfl
 | _::_,_,0,⟨x,r,h0,h1,h2⟩,hd=>by subst h0; exact ⟨v,r,rfl,hd,h2⟩
 | _::_,_,k+1,⟨x,r,h0,h1,h2⟩,hd=>by subst h0; exact ⟨x,_,rfl,h1,a7.set k h2 hd⟩
def wJ (i:Nat) (mk me:ME):MS:=λρ=>(me ρ).bind λd=>match ρ[i]? with
 | some (some (.m l))=>(mk ρ).bind λy=>match y with
   | .int n=>match kE l.length n with
     | some j=>.ok (.nx (ρ.set i (some (.m (l.set j d)))))
     | none=>.bad
   | _=>.bad
 | _=>.bad
theorem KI (he:DE X E e me) (hk:DE X E i mk) (hN:X.N[s]? = some x:=by rfl) (hv:vy X.env.scope x:=by first | exact Or.inl rfl | exact Or.inr (Or.inl rfl) | exact Or.inr (Or.inr rfl)) (hd:(x == ("__debug__":Str)) = false:=by decide)
  (hcd:(x == ("__classdict__":Str)) = false:=by decide) (hs:swapsWith e (some (.Subscript (.Name x np) i pos')) pos.line X.env = pure false:=by rfl):
  DS X E false (.Assign [.Subscript (.Name x np) i pos'] e pos) (wJ s mk me):=(JB (qv s hN hv hd hcd) hk he hs).imp λD σ H ⟨B,P,ρ,r,o⟩=>
 ⟨B,P,ρ,r,eM.bind (x:=me ρ) o λd H1 _ s1 o1 v hv=>by
   have r1:=r.same s1
   cases z:ρ[s]? with
   | none=>rw [z] at o1; exact o1.elim
   | some c=>
     rw [z] at o1
     cases c with
     | none=>exact o1.elim
     | some c=>
       cases c with
       | m l=>
         obtain ⟨p,xs,h1,h4,h6⟩:=DQ r1 z
         show jo s σ H1 _
         unfold jo
         rw [h1]
         refine ⟨B,P,ρ,r1,eM.bind (x:=mk ρ) o1 λy H2 _ s2 o2 w hw=>?_⟩
         cases y with
         | int n=>
           dsimp only at o2
           cases hc:kE l.length n with
           | none=>rw [hc] at o2; exact o2.elim
           | some j=>
             rw [hc] at o2
             have r2:=r1.same s2
             obtain ⟨r3,ex⟩:=r2.change (xs':=xs.set j v) (l':=l.set j d) z h1 (s2 _ _ h4) (by rw [List.length_set]; exact (r2.ms s l z).elim λp hp=>hp.elim λxs hx=>hx.2.2.2.2.1) (a7.set _ (h6.same s2) (hv.same s2))
             exact ⟨p,xs,n,j,rfl,hw,s2 _ _ h4,by rw [h6.len]; exact hc,o2 P σ _ ⟨ex,λ_ z=>.inl z,λz=>nomatch z⟩ r3⟩
         | _=>exact o2.elim
       | v d=>exact o1.elim
       | b l=>exact o1.elim⟩
end
end L2
end
section
namespace L2
open PySem PySem.Spec PyProof.Rows
section
variable {K:W.Frag} {B P:Addr->Prop} {ρ:Ev} {σ:St} {H H':Hp}
end
section
variable {X:Cx} {E:XK} {iter:Expr} {scope:Scope} {N:List Str} {fr:List Nat} {nt:Nat} {ms:MA} {pos p1 np:Pos} {x:Str}
end
end L2
end
section
namespace L2
open PySem PySem.Spec PyProof.Rows
def clsAt:Stmt->Nat->Stmt
 | .ClassDef _ _ _ body _ _ _ _ _ _ _,i=>body.getD i (.Pass ⟨0,0,0,0⟩)
 | s,_=>s
section
variable {P:Program} {w:World} {K:W.Frag} {mg:Str->Option Value} {base:Heap} {x:Str} {st:Stmt} {N ps:List Str} {k:Nat}
theorem Iy (F:qI K x x st f fd) (S:aD N [y] (ah st)) (hps:1<=N.length)
  (hbody:∀ (cdv:Value) (A:Around) (outer:List Env) (s:Shared) (H:Hp) (E:XK),bI k (A.deeper (envOfC x (ah st) s.heap.objs.size f cdv))->jf (fT (dF P w) P w K mg base N x (ah st) f cdv A outer s H E) E (c9 st) m)
  (hlaw:∀ ns:List Int,ns.length<=63->∀ r,d3 N.length m (λ_=>none) [.seq (ns.map .int)] r->∃ τ,r = .ok (.bl true) τ):dG P w K mg base tO (k+1) f fd [y] (oX K):=by
 have C:dG P w K mg base (dF P w) (k+1) f fd [y] (jN K mg 1 (d3 N.length m)):=Ms F S hps hbody
 refine (C.imp (sp':=oX K) λvs H Q E ⟨a,ns,h,hO,hS,hl,q⟩=>?_).calm λvs H Q E h=>h
 subst h
 refine ⟨λ_=>False,λ_=>none,[.seq (ns.map .int)],λ_ z=>z.elim,(λ_ _ z=>nomatch z),⟨_,_,rfl,⟨a,ns.map V.int,rfl,hS,λH' k=>?_,?_,?_⟩,rfl⟩,rfl,λr hr=>?_⟩
 ·rcases hS with (hS | ⟨o,hS⟩) | hS
  ·rcases hO a with z | ⟨o,xs,z⟩
   ·rw [z] at hS; cases hS
   ·rw [z] at hS; cases hS
  ·exact .inl (.inr ⟨o,k _ _ _ hS⟩)
  ·exact .inr hS
 ·rw [List.length_map]
  exact Nat.le_trans hl (by decide)
 ·clear q hS hl hO
  induction ns with
  | nil=>rfl
  | cons n r ih=>exact ⟨_,_,rfl,rfl,ih⟩
 ·obtain ⟨τ,e⟩:=hlaw ns hl r hr
  subst e
  exact λv Z' H' _ _ _ hv=>by rw [show v = _ from hv]; exact q H'
end
def uY (i:Nat) (m:MW):MW:=λρ r=>match ρ[i]? with
 | some (some (.m l))=>m (ρ.set i (some (.v (.lst l)))) r
 | _=>r = .bad
theorem Hq {X:Cx} {E:XK} {rest:List Stmt} {m:MW} (i:Nat) (h:jf X E rest m):jf X E rest (uY i m):=ia.imp h λD σ H ⟨B,P,ρ,r,o⟩=>by
 unfold uY at o
 cases z:ρ[i]? with
 | none=>rw [z] at o; exact (o .bad rfl).elim
 | some c=>
   rw [z] at o
   cases c with
   | none=>exact (o .bad rfl).elim
   | some c=>
     cases c with
     | m l=>
       obtain ⟨p,r2⟩:=r.freeze z
       exact ⟨B,_,_,r2,λr1 h1=>(o r1 h1).mono (Sw.nL Ext.refl λa z=>.inl z.1)⟩
     | v d=>exact (o .bad rfl).elim
     | b l=>exact (o .bad rfl).elim
def p6 (P:Program) (w:World) (K:W.Frag) (mg:Str->Option Value) (base:Heap) (j:Nat) (kvs:List (Str×V)) (fs:List (Str×DF)):Prop:=∀ k f,fs.lookup k = some f->∃ v,kvs.lookup k = some v/\FnAt P w K mg base j v f
section
variable {P:Program} {w:World} {K:W.Frag} {mg:Str->Option Value} {base:Heap} {j:Nat} {kvs:List (Str×V)}
theorem EZ:p6 P w K mg base j kvs []:=λ_ _ h=>by cases h
theorem kc (h:kvs.lookup k = some v) (F:FnAt P w K mg base j v f) (r:p6 P w K mg base j kvs fs):p6 P w K mg base j kvs ((k,f)::fs):=λy g e=>by
 by_cases z:y = k
 ·subst z; rw [List.lookup_cons_self] at e; cases e; exact ⟨v,h,F⟩
 ·have hb:(y == k) = false:=by simpa using z
  rw [List.lookup_cons,hb] at e
  exact r y g e
theorem KR:sE P w K mg base j kvs []:=λ_ _ h=>by cases h
theorem JN (h:kvs.lookup k = some v) (F:wO P w K mg base j v t) (r:sE P w K mg base j kvs fs):sE P w K mg base j kvs ((k,t)::fs):=λy g e=>by
 by_cases z:y = k
 ·subst z; rw [List.lookup_cons_self] at e; cases e; exact ⟨v,h,F⟩
 ·have hb:(y == k) = false:=by simpa using z
  rw [List.lookup_cons,hb] at e
  exact r y g e
end
section
theorem A8 (px:PX X E) (D:gn X.K X.w X.mg x kvs) (T:p6 X.prog X.w X.K X.mg X.base j kvs fs) (hr:bI k X.A) (hy:DB X E y m) (ha:DA X E (e::es) ms) (hj:j<=k:=by first | decide | omega)
  (hs:jj y:=by intro _ _; rfl) (hg:Gl X x:=by rfl) (hdb:(x == ("__debug__":Str)) = false:=by decide) (he:isStar e = false:=by rfl) (hpl:es.all (λe=>!isStar e) = true:=by rfl):
  DE X E (.Call (.Subscript (.Name x p) y p3) (e::es) [] pos) (km fs m ms):=by
 intro pins s σ H Q I ⟨B,P,ρ,r,o⟩
 refine Call_ (aW (Cj D hy hs hg hdb pins s σ H (λu H1=>∃ f,FnAt X.prog X.w X.K X.mg X.base j u f/\aK H H1/\Out X.mg H1 E ((ms ρ).bind (f ρ.t)) λd H'=>∀ v,Rp X.K (ZU B P) H' d v->Q v H') I ⟨B,P,ρ,r,o.bind λd H1 _ s1 o1 v hv=>?_⟩) ?_)
 ·cases d with
  | str k=>
    rw [show v = _ from hv.1]
    dsimp only at o1 ⊢
    cases z:fs.lookup k with
    | none=>rw [z] at o1; exact o1.elim
    | some f=>
      rw [z] at o1
      obtain ⟨u,h1,h2⟩:=T k f z
      rw [h1]
      exact ⟨f,h2,s1,o1⟩
  | _=>exact o1.elim
 ·rintro u s1 ⟨v,H1,I1,r1,f,⟨fa,fd,ps,rfl,h2,h3,h4⟩,sm,o1⟩
  cases r1
  refine PySem.W.callWith_K (h₀:=X.base) I.ok.mod.vp h2 (aW (ha pos pins s1 σ H1 (λvs H2=>ic X.K X.mg f (vs++[]) H2 Q E) I1 ⟨B,P,ρ,r.same sm,o1.bind λl H2 _ s2 o2 vs hv=>?_⟩) λus s2 ⟨vs,H2,I2,r2,q2⟩=>⟨I2.gZ,oY h4 (hr.mono hj) h3 .nil px.pass I2 r2 q2⟩) (b5 he) (cu hpl)
  show ic X.K X.mg f (vs++[]) H2 Q E
  rw [List.append_nil]
  exact ⟨ZU B P,ρ.t,l,(r.same (sm.trans s2)).old,(r.same (sm.trans s2)).st,hv,o2⟩
end
def eF (K:W.Frag) (c m qual:Str) (st:Stmt) (ps:List Str):Prop:=∃ fa fd,je K (dE K c)/\Meth K (dE K c) m fa/\qI K m qual st fa fd/\∀ us:List Value,us.length = ps.length->bindArgs fd ⟨us,[]⟩ = pure (ps.zip us)
def jt (K:W.Frag) (mg:Str->Option Value) (c qual:Str) (st:Stmt) (ps:List Str):Prop:=∃ fa fd,mg c = some (.ref (dE K c))/\Mk K (dE K c) fa/\qI K "__init__" qual st fa fd/\∀ us:List Value,us.length = ps.length->bindArgs fd ⟨us,[]⟩ = pure (ps.zip us)
section
variable {P:Program} {w:World} {K:W.Frag} {mg:Str->Option Value} {base:Heap} {c y qual:Str} {st:Stmt} {N ps:List Str} {k:Nat}
theorem t7 (F:eF K c y qual st ps) (S:aD N ps (ah st)) (hps:ps.length<=N.length)
  (hbody:∀ (f:Addr) (cdv:Value) (A:Around) (outer:List Env) (s:Shared) (H:Hp) (E:XK),bI k (A.deeper (envOfC qual (ah st) s.heap.objs.size f cdv))->jf (fT (dF P w) P w K mg base N qual (ah st) f cdv A outer s H E) E (c9 st) m):
  kD P w K mg base c y (k+1) ps.length (d3 N.length m):=by
 obtain ⟨fa,fd,h1,h2,h3,h4⟩:=F
 exact ⟨fa,fd,ps,h1,h2,Binds.all h4,Ms h3 S hps (hbody fa)⟩
theorem oE (F:jt K mg c qual st ps) (S:aD N ps (ah st)) (hps:ps.length<=N.length)
  (hbody:∀ (f:Addr) (cdv:Value) (A:Around) (outer:List Env) (s:Shared) (H:Hp) (E:XK),bI k (A.deeper (envOfC qual (ah st) s.heap.objs.size f cdv))->jf (fT (dF P w) P w K mg base N qual (ah st) f cdv A outer s H E) E (c9 st) m):
  Maker P w K mg base c (k+1) ps.length (d3 N.length m):=by
 obtain ⟨fa,fd,h1,h2,h3,h4⟩:=F
 exact ⟨fa,fd,ps,h1,h2,Binds.all h4,Ms h3 S hps (hbody fa)⟩
end
end L2
end
section
namespace L2
open PySem PySem.W PySem.Spec PyProof.Rows
section
variable {K:Frag} {mg:Str->Option Value} {h:Heap} {c y qual:Str} {st:Stmt} {ps:List Str} {C f:Addr}
theorem kK (a:nsIn K mainGlobals c = some (some (.ref C))):dE K c = C:=by unfold dE; rw [a]
theorem oG (X:K.In h) (G:h.Ns mainGlobals mg) (a:nsIn K mainGlobals c = some (some (.ref C))):aR mg c = C:=by
 have q:=mg_of X G a
 unfold aR
 rw [q]
def u3 (K:Frag) (C:Addr) (fs:List Str):Bool:=plainGet K C Str.empty && hasDictIn K C && plainOver K C && (findIn K (.ref C) "__setattr__" == some (some (.builtin "object.__setattr__"))) && fs.all λf=>findIn K (.ref C) f == some none
theorem E5 (b:u3 K C fs = true):je K C:=by
 unfold u3 at b
 simp only [Bool.and_eq_true,beq_iff_eq] at b
 exact ⟨b.1.1.1.1,b.1.1.1.2,b.1.1.2,b.1.2⟩
theorem Mw (a:nsIn K mainGlobals c = some (some (.ref C))) (b:u3 K C fs = true) (hg:fs.contains g = true):je K (dE K c)/\ib K (dE K c) g:=by
 rw [kK a]
 refine ⟨E5 b,?_⟩
 unfold u3 at b
 simp only [Bool.and_eq_true] at b
 have:=List.all_eq_true.mp b.2 g (by simpa using hg)
 exact beq_iff_eq.mp this
theorem LP:dg K [] g:=λ_ z=>nomatch z
theorem JE (h:je K (dE K c)/\ib K (dE K c) g) (r:dg K cs g):dg K (c::cs) g:=λd hd=>by
 by_cases e:d = c
 ·subst e; exact h
 ·exact r d (by
   rw [List.contains_cons] at hd
   have:(d == c) = false:=by simpa using e
   rw [this,Bool.false_or] at hd
   exact hd)
theorem Bt {oc:Value} {od an:Option Addr} {osl:Array (Option Value)} {kV doc pm cdv ct:Value} (X:K.In h) (G:h.Ns mainGlobals mg) (a:nsIn K mainGlobals c = some (some (.ref C))) (b:(makesIn K C && keepIn K (.ref C)) = true) (i:findIn K (.ref C) "__init__" = some (some (.ref f)))
  (l:K.lookup f = some ⟨oc,od,.func (fnOf "__init__" qual (gP st) (c9 st) (ah st) .none kV doc pm an cdv ct),osl⟩) (k:(codeIn K cdv qual && keepIn K (.ref f) && isFn K (.ref f)) = true)
  (hb:∀ (kV doc pm:Value) (an:Option Addr) (cdv ct:Value) (us:List Value),us.length = ps.length->bindArgs (fnOf "__init__" qual (gP st) (c9 st) (ah st) .none kV doc pm an cdv ct) ⟨us,[]⟩ = pure (ps.zip us)):jt K mg c qual st ps:=by
 simp only [Bool.and_eq_true] at b k
 refine ⟨f,_,?_,?_,zd (st:=st) l k.1.1 k.1.2,hb _ _ _ _ _ _⟩
 ·rw [kK a]; exact mg_of X G a
 ·rw [kK a]; exact ⟨b.1,i,k.2,b.2⟩
theorem B9 {fs:List Str} {oc:Value} {od an:Option Addr} {osl:Array (Option Value)} {kV doc pm cdv ct:Value} (a:nsIn K mainGlobals c = some (some (.ref C))) (b:u3 K C fs = true) (i:findIn K (.ref C) y = some (some (.ref f)))
  (l:K.lookup f = some ⟨oc,od,.func (fnOf y qual (gP st) (c9 st) (ah st) .none kV doc pm an cdv ct),osl⟩) (k:(codeIn K cdv qual && keepIn K (.ref f) && isFn K (.ref f)) = true)
  (hb:∀ (kV doc pm:Value) (an:Option Addr) (cdv ct:Value) (us:List Value),us.length = ps.length->bindArgs (fnOf y qual (gP st) (c9 st) (ah st) .none kV doc pm an cdv ct) ⟨us,[]⟩ = pure (ps.zip us)):eF K c y qual st ps:=by
 simp only [Bool.and_eq_true] at k
 refine ⟨f,_,?_,?_,zd (st:=st) l k.1.1 k.1.2,hb _ _ _ _ _ _⟩
 ·rw [kK a]; exact E5 b
 ·rw [kK a]; exact ⟨i,k.2,k.1.2⟩
def G0 (K:Frag) (D:Addr):Bool:=(findIn K (.ref D) "__getattribute__" == some (some (.builtin "BaseException.__getattribute__"))) && (findIn K (.ref D) "__getattr__" == some none) && (findIn K (.ref D) "__class__" == some (some (.builtin "object.__class__")))
 && (specialIn K (.builtin "object.__class__") "__get__" == some (some (.builtin "getset_descriptor.__get__"))) && (takesIn K (.builtin "object.__class__") == some true) && (mroIn K D (.type "object") == some true) && (mroIn K D (.type "BaseException") == some true)
theorem JZ (b:G0 K D = true):Lr K D:=by
 unfold G0 at b
 simp only [Bool.and_eq_true,beq_iff_eq] at b
 exact ⟨b.1.1.1.1.1.1,b.1.1.1.1.1.2,b.1.1.1.1.2,b.1.1.1.2,b.1.1.2,b.1.2,b.2⟩
def Pg (K:Frag) (rs as:List Str) (sub:Str->Str->Bool):Bool:=rs.all λc=>G0 K (dE K c) && as.all λh=>kitOne K (.ref (dE K c)) (.ref (dE K h)) == some (sub c h)
theorem P5 {rs as:List Str} {sub:Str->Str->Bool} (b:Pg K rs as sub = true) (ha:∀ x,as.contains x = true->aR mg x = dE K x):PQ K mg (λc h=>if (rs.contains c && as.contains h) = true then some (sub c h) else none):=λc h v e=>by
 dsimp only at e
 split at e
 ·rename_i q
  rw [Bool.and_eq_true] at q
  cases e
  have z:=List.all_eq_true.mp b c (by simpa using q.1)
  rw [Bool.and_eq_true] at z
  have y:=List.all_eq_true.mp z.2 h (by simpa using q.2)
  rw [ha h q.2]
  exact ⟨JZ z.1,beq_iff_eq.mp y⟩
 ·cases e
theorem all_nil {p:Str->Prop}:∀ x,([]:List Str).contains x = true->p x:=λ_ z=>nomatch z
theorem all_cons {p:Str->Prop} {l:List Str} (h:p c) (r:∀ x,l.contains x = true->p x):∀ x,(c::l).contains x = true->p x:=λd hd=>by
 by_cases e:d = c
 ·subst e; exact h
 ·exact r d (by
   rw [List.contains_cons] at hd
   have:(d == c) = false:=by simpa using e
   rw [this,Bool.false_or] at hd
   exact hd)
theorem MR (X:K.In h) (G:h.Ns mainGlobals mg) (e1:nsIn K mainGlobals a = some (some (.ref A))) (e2:nsIn K mainGlobals b = some (some (.ref B))) (c1:excIn K A lO "ValueError.__new__" = true) (c2:excIn K B lO "ValueError.__new__" = true) (ab:(A == B || (tw K A).contains (.ref B)) = v):
  Mt K (.ref (aR mg a)) (aR mg b) v/\aR mg a = dE K a:=by
 rw [oG X G e1,oG X G e2,kK e1]
 refine ⟨?_,rfl⟩
 by_cases z:A = B
 ·subst z
  have:v = true:=by rw [←ab]; simp
  rw [this]
  exact Jy c1
 ·have:(A == B) = false:=by simpa using z
  rw [this,Bool.false_or] at ab
  exact LB c1 c2 ab
end
end L2
end
section
namespace L2
open PySem PySem.Spec PyProof.Rows
end L2
end
section
namespace L2
open PySem
section
theorem fN:aF (aF τ p o) p o' = aF τ p o':=by
 funext x; unfold aF; split <;> rfl
theorem iz (h:p≠q):aF (aF τ p o) q o' = aF (aF τ q o') p o:=by
 funext x
 unfold aF
 by_cases h1:x = p
 ·subst h1; simp [h]
 ·simp [h1]
theorem Ji (h:s ρ = .ok (.nx ρ')) (ht:ρ'.t = ρ.t) (hw:ay s ρ r):r = .nx ρ':=by
 unfold ay at hw; rw [h] at hw; unfold wY at hw; rw [hw]; exact if_pos ht
theorem J9 (h:s ρ = .ok (.rt d)) (hw:ay s ρ r):r = .rt d ρ.t:=by
 unfold ay at hw; rw [h] at hw; exact hw
theorem JU (h:s ρ = .ex c) (hw:ay s ρ r):r = .ex c ρ.t:=by
 unfold ay at hw; rw [h] at hw; exact hw
end
section
variable {cs:List Str} {f c:Str} {mo me mk:ME} {mx:MX} {ρ:Ev} {r:Fw} {p:Addr} {fs:List (Str×Dv)} {d o:Dv} {τ:cw}
theorem pV (ho:mo ρ = .ok (.ob p)) (hp:ρ.t p = some (.ins c fs)) (hc:cs.contains c = true) (hl:fs.length < 1000) (hw:fR mo (λo ρ r=>match iw ρ.t o with
  | some (p,c,fs)=>r = if cs.contains c = true/\fs.length < 1000 then .nx ⟨ρ.c,aF ρ.t p (.ins c (fV f d fs))⟩ else .bad
  | none=>r = .bad) ρ r):r = .nx ⟨ρ.c,aF ρ.t p (.ins c (fV f d fs))⟩:=by
 unfold fR at hw
 rw [ho] at hw
 dsimp only at hw
 have e:iw ρ.t (.ob p) = some (p,c,fs):=by unfold iw; dsimp only; rw [hp]
 rw [e] at hw
 dsimp only at hw
 rw [if_pos ⟨hc,hl⟩] at hw
 exact hw
theorem Fv (he:me ρ = .ok d) (ho:mo ρ = .ok (.ob p)) (hp:ρ.t p = some (.ins c fs)) (hc:cs.contains c = true) (hl:fs.length < 1000) (hw:de cs f mo (dr me) ρ r):r = .nx ⟨ρ.c,aF ρ.t p (.ins c (fV f d fs))⟩:=by
 obtain ⟨r1,h1,h2⟩:=hw
 unfold dr at h1
 rw [he] at h1
 subst h1
 exact pV (ρ:=ρ) ho hp hc hl h2
theorem GW (ho:∀ τ,mo ⟨ρ.c,τ⟩ = .ok (.ob p)) (hp:ρ.t p = some (.ins c fs)) (hc:cs.contains c = true) (hl:fs.length < 1000) (hw:de cs f mo jC ρ r):∃ q,ρ.t q = none/\r = .nx ⟨ρ.c,aF (aF ρ.t q (.dct [])) p (.ins c (fV f (.ob q) fs))⟩:=by
 obtain ⟨r1,⟨q,hq,e⟩,h2⟩:=hw
 subst e
 have ne:p≠q:=λz=>by rw [z,hq] at hp; cases hp
 exact ⟨q,hq,pV (ρ:=⟨ρ.c,aF ρ.t q (.dct [])⟩) (ho _) (by show aF ρ.t q (.dct []) p = _; rw [dc ne]; exact hp) hc hl h2⟩
theorem F4 (ho:∀ τ,mo ⟨ρ.c,τ⟩ = .ok (.ob p)) (hp:ρ.t p = some (.ins c fs)) (hc:cs.contains c = true) (hl:fs.length < 1000) (hw:de cs f mo sU ρ r):∃ q,ρ.t q = none/\r = .nx ⟨ρ.c,aF (aF ρ.t q (.ls [])) p (.ins c (fV f (.ob q) fs))⟩:=by
 obtain ⟨r1,⟨q,hq,e⟩,h2⟩:=hw
 subst e
 have ne:p≠q:=λz=>by rw [z,hq] at hp; cases hp
 exact ⟨q,hq,pV (ρ:=⟨ρ.c,aF ρ.t q (.ls [])⟩) (ho _) (by show aF ρ.t q (.ls []) p = _; rw [dc ne]; exact hp) hc hl h2⟩
theorem MU (ho:mo ρ = .ok (.ob p)) (hk:mk ρ = .ok y) (hy:kP y = some k) (hp:ρ.t p = some (.dct kvs)) (hl:kvs.length < sizeLine) (hw:fR mo (λo=>fR mk λk ρ r=>match y8 ρ.t o,kP k with
  | some (p,kvs),some k=>r = if kvs.length < sizeLine then .nx ⟨ρ.c,aF ρ.t p (.dct (fS kvs k d))⟩ else .bad
  | _,_=>r = .bad) ρ r):r = .nx ⟨ρ.c,aF ρ.t p (.dct (fS kvs k d))⟩:=by
 unfold fR at hw
 rw [ho] at hw
 dsimp only at hw
 rw [hk] at hw
 dsimp only at hw
 have e:y8 ρ.t (.ob p) = some (p,kvs):=by unfold y8; dsimp only; rw [hp]
 rw [e,hy] at hw
 dsimp only at hw
 rw [if_pos hl] at hw
 exact hw
theorem M0 (ho:mo ρ = .ok (.ob p)) (he:me ρ = .ok d) (hp:ρ.t p = some (.ls l)) (hl:l.length < sizeLine) (hw:xj mo me ρ r):r = .nx ⟨ρ.c,aF ρ.t p (.ls (l++[d]))⟩:=by
 unfold xj fR at hw
 rw [ho] at hw
 dsimp only at hw
 have e:vT ρ.t (.ob p) = some (p,l):=by unfold vT; dsimp only; rw [hp]
 rw [e] at hw
 dsimp only at hw
 rw [he] at hw
 dsimp only at hw
 rw [if_pos hl] at hw
 exact hw
theorem Be {k:Nat} {g:DX} {ms:MA} {l:List Dv} {r:Rw} (h:ms ρ = .ok l) (hl:l.length = k) (hw:iq k g ms ρ r):g ρ.t l r:=by
 unfold iq at hw
 rw [h] at hw
 dsimp only at hw
 rw [if_pos hl] at hw
 exact hw
theorem J7 {k:Nat} {g:DX} {ms:MA} {l:List Dv} {r:Rw} {c:Str} (h:ms ρ = .ok l) (hl:l.length+1 = k) (hw:fW c k g ms ρ r):∃ p r1,ρ.t p = none/\g (aF ρ.t p (.ins c [])) (.ob p::l) r1/\r = wx p r1:=by
 unfold fW at hw
 rw [h] at hw
 dsimp only at hw
 rw [if_pos hl] at hw
 exact hw
theorem Kc {k:Nat} {g:DX} {ms:MA} {l:List Dv} {r:Rw} {c m:Str} (ho:mo ρ = .ok (.ob p)) (hp:ρ.t p = some (.ins c fs)) (hm:fs.lookup m = none) (h:ms ρ = .ok l) (hl:l.length+1 = k) (hw:eS c m k g mo ms ρ r):g ρ.t (.ob p::l) r:=by
 unfold eS at hw
 rw [ho] at hw
 dsimp only at hw
 have e:iw ρ.t (.ob p) = some (p,c,fs):=by unfold iw; dsimp only; rw [hp]
 rw [e] at hw
 dsimp only at hw
 rw [if_pos ⟨rfl,hm⟩,h] at hw
 dsimp only at hw
 rw [if_pos hl] at hw
 exact hw
theorem ML {tb:List (Str×Nat×DX)} {y:ME} {ms:MA} {l:List Dv} {r:Rw} {k:Str} {t:Nat×DX} (hy:y ρ = .ok (.str k)) (ht:tb.lookup k = some t) (h:ms ρ = .ok l) (hl:l.length = t.1) (hw:ue tb y ms ρ r):t.2 ρ.t l r:=by
 unfold ue at hw
 rw [hy] at hw
 dsimp only at hw
 rw [ht] at hw
 exact Be h hl hw
end
end L2
end
section
namespace L2
open PySem
def Al (m:MW) (ρ:Ev) (Φ:Fw->Prop):Prop:=∀ r,m ρ r->Φ r
def Ax (m:MX) (ρ:Ev) (Φ:Rw->Prop):Prop:=∀ r,m ρ r->Φ r
def Ac (f:DX) (τ:cw) (l:List Dv) (Φ:Rw->Prop):Prop:=∀ r,f τ l r->Φ r
def Ov (b:MW) (Φ:Fw->Prop):Fw->Prop
 | .nx ρ=>Al b ρ Φ
 | r=>Φ r
def Pz (b:MW) (Φ:Fw->Prop):Fw->Prop
 | .nx ρ=>Al b ρ Φ
 | .ct ρ=>Al b ρ Φ
 | .bk ρ=>Φ (.nx ρ)
 | r=>Φ r
def HV (Φ:Fw->Prop) (k:Dv->cw->Prop):Rw->Prop
 | .ok d τ=>k d τ
 | .ex c τ=>Φ (.ex c τ)
 | .bad=>Φ .bad
section
variable {a b:MW} {ρ ρ' ρ1:Ev} {Φ Ψ:Fw->Prop} {s:MS} {d:Dv} {c:Str} {τ τ1:cw} {m:ME} {mx:MX} {i n:Nat} {ds:List Dv} {X Y:Rw->Prop}
theorem Al.imp (h:Al a ρ Ψ) (k:∀ r,Ψ r->Φ r):Al a ρ Φ:=λr z=>k r (h r z)
theorem Ax.imp (h:Ax mx ρ Y) (k:∀ r,Y r->X r):Ax mx ρ X:=λr z=>k r (h r z)
theorem Ac.imp (h:Ac f τ l Y) (k:∀ r,Y r->X r):Ac f τ l X:=λr z=>k r (h r z)
theorem d7 (h:Al a (aE n τ ds) (λr=>X (Bv r))):Ac (d3 n a) τ ds X:=λr ⟨r1,h1,e⟩=>e▸h r1 h1
theorem aG (h:Al a ρ (Ov b Φ)):Al (aX a b) ρ Φ:=λr ⟨r1,h1,h2⟩=>by
 have z:=h r1 h1
 cases r1 with
 | nx ρ'=>exact z r h2
 | _=>rw [show r = _ from h2]; exact z
theorem js (h:s ρ = .ok (.nx ρ')) (ht:ρ'.t = ρ.t) (k:Φ (.nx ρ')):Al (ay s) ρ Φ:=λr z=>(Ji h ht z)▸k
theorem wt (h:s ρ = .ok (.rt d)) (k:Φ (.rt d ρ.t)):Al (ay s) ρ Φ:=λr z=>(J9 h z)▸k
theorem Nh (h:s ρ = .ex c) (k:Φ (.ex c ρ.t)):Al (ay s) ρ Φ:=λr z=>(JU h z)▸k
theorem ke (k:Φ (.nx ρ)):Al (ay aL) ρ Φ:=js rfl rfl k
theorem eJ (h:m ρ = .ok d) (k:Φ (.nx (ρ.set i (some (.v d))))):Al (ay (bC i m)) ρ Φ:=js (ρ':=ρ.set i (some (.v d))) (by unfold bC; rw [h]; rfl) rfl k
theorem El (h:ma ρ = .ok l) (k:Φ (.nx (ρ.set i (some (.m l))))):Al (ay (jU i ma)) ρ Φ:=js (ρ':=ρ.set i (some (.m l))) (by unfold jU; rw [h]; rfl) rfl k
theorem gF (h:m ρ = .ok d) (k:Φ (.nx ρ)):Al (ay (eW m)) ρ Φ:=js (by unfold eW; rw [h]; rfl) rfl k
theorem vM (h:m ρ = .ex c) (k:Φ (.ex c ρ.t)):Al (ay (eW m)) ρ Φ:=Nh (by unfold eW; rw [h]; rfl) k
theorem E8 (h:m ρ = .ok d) (k:Φ (.rt d ρ.t)):Al (ay (aQ m)) ρ Φ:=wt (by unfold aQ; rw [h]; rfl) k
theorem qe (h:Ax mx ρ (HV Φ λd τ=>Al (k d τ) ⟨ρ.c,τ⟩ Φ)):Al (lC mx k) ρ Φ:=λr ⟨r1,h1,h2⟩=>by
 have z:=h r1 h1
 cases r1 with
 | ok d τ=>exact z r h2
 | _=>rw [show r = _ from h2]; exact z
theorem Bi (h:Ax mx ρ (HV Φ λd τ=>Φ (.nx ((⟨ρ.c,τ⟩:Ev).set i (some (.v d)))))):Al (Cs i mx) ρ Φ:=qe (h.imp λr z=>by
 cases r with
 | ok d τ=>intro r e; rw [show r = _ from e]; exact z
 | _=>exact z)
theorem nX (h:Ax mx ρ (HV Φ λd τ=>Φ (.nx ⟨ρ.c,τ⟩))):Al (nB mx) ρ Φ:=qe (h.imp λr z=>by
 cases r with
 | ok d τ=>intro r e; rw [show r = _ from e]; exact z
 | _=>exact z)
theorem Jn (h:Ax mx ρ (HV Φ λd τ=>Φ (.rt d τ))):Al (FL mx) ρ Φ:=qe (h.imp λr z=>by
 cases r with
 | ok d τ=>intro r e; rw [show r = _ from e]; exact z
 | _=>exact z)
theorem sS (h:t ρ = .ok true) (k:Al a ρ Φ):Al (kq t a b) ρ Φ:=λr z=>by unfold kq at z; rw [h] at z; exact k r z
theorem qc (h:t ρ = .ok false) (k:Al b ρ Φ):Al (kq t a b) ρ Φ:=λr z=>by unfold kq at z; rw [h] at z; exact k r z
theorem xF (h:it ρ = .ok l) (k:Al (gm g b l) ρ Φ):Al (u6 it g b) ρ Φ:=λr z=>by
 unfold u6 fR at z; rw [h] at z; exact k r z
theorem yY (k:Φ (.nx ρ)):Al (gm g b []) ρ Φ:=λr z=>by rw [show r = _ from z]; exact k
theorem uu (hg:g d ρ = .ok ρ1) (ht:ρ1.t = ρ.t) (h:Al b ρ1 (Pz (gm g b l) Φ)):Al (gm g b (d::l)) ρ Φ:=λr z=>by
 unfold gm at z
 rw [hg] at z
 rcases z with ⟨_,r1,h1,h2⟩ | z
 ·have z:=h r1 h1
  cases r1 with
  | nx ρ'=>exact z r h2
  | ct ρ'=>exact z r h2
  | bk ρ'=>rw [show r = _ from h2]; exact z
  | _=>rw [show r = _ from h2]; exact z
 ·exact absurd ht z.1
theorem Ep (h:ρ[i]? = some (some (.m l))) (k:Al a (ρ.set i (some (.v (.lst l)))) Φ):Al (uY i a) ρ Φ:=λr z=>by
 unfold uY at z; rw [h] at z; exact k r z
theorem Bb (h:m ρ = .ok d) (k:X (.ok d ρ.t)):Ax (dr m) ρ X:=λr z=>by
 unfold dr at z; rw [h] at z; rw [show r = _ from z]; exact k
theorem Ak (h:ms ρ = .ok l) (hl:l.length = k) (q:Ac g ρ.t l X):Ax (iq k g ms) ρ X:=λr z=>q r (Be h hl z)
theorem kg (h:ms ρ = .ok l) (hl:l.length+1 = k) (q:∀ p,ρ.t p = none->Ac g (aF ρ.t p (.ins c [])) (.ob p::l) (λr=>X (wx p r))):Ax (fW c k g ms) ρ X:=λr z=>by
 obtain ⟨p,r1,h1,h2,e⟩:=J7 h hl z
 rw [e]; exact q p h1 r1 h2
theorem gS (ho:mo ρ = .ok (.ob p)) (hp:ρ.t p = some (.ins c fs)) (hm:fs.lookup y = none) (h:ms ρ = .ok l) (hl:l.length+1 = k) (q:Ac g ρ.t (.ob p::l) X):Ax (eS c y k g mo ms) ρ X:=λr z=>q r (Kc ho hp hm h hl z)
theorem Lk (hy:y ρ = .ok (.str k)) (ht:tb.lookup k = some t) (h:ms ρ = .ok l) (hl:l.length = t.1) (q:Ac t.2 ρ.t l X):Ax (ue tb y ms) ρ X:=λr z=>q r (ML hy ht h hl z)
theorem fM (he:m ρ = .ok d) (ho:mo ρ = .ok (.ob p)) (hp:ρ.t p = some (.ins c fs)) (hc:cs.contains c = true) (hl:fs.length < 1000) (k:Φ (.nx ⟨ρ.c,aF ρ.t p (.ins c (fV f d fs))⟩)):Al (de cs f mo (dr m)) ρ Φ:=λr z=>(Fv he ho hp hc hl z)▸k
theorem jv (ho:∀ τ,mo ⟨ρ.c,τ⟩ = .ok (.ob p)) (hp:ρ.t p = some (.ins c fs)) (hc:cs.contains c = true) (hl:fs.length < 1000) (k:∀ q,ρ.t q = none->Φ (.nx ⟨ρ.c,aF (aF ρ.t q (.dct [])) p (.ins c (fV f (.ob q) fs))⟩)):Al (de cs f mo jC) ρ Φ:=λr z=>by
 obtain ⟨q,h1,e⟩:=GW ho hp hc hl z
 rw [e]; exact k q h1
theorem A2 (ho:∀ τ,mo ⟨ρ.c,τ⟩ = .ok (.ob p)) (hp:ρ.t p = some (.ins c fs)) (hc:cs.contains c = true) (hl:fs.length < 1000) (k:∀ q,ρ.t q = none->Φ (.nx ⟨ρ.c,aF (aF ρ.t q (.ls [])) p (.ins c (fV f (.ob q) fs))⟩)):Al (de cs f mo sU) ρ Φ:=λr z=>by
 obtain ⟨q,h1,e⟩:=F4 ho hp hc hl z
 rw [e]; exact k q h1
def BP (mo mk:ME) (ρ:Ev) (Φ:Fw->Prop):Rw->Prop:=λr=>∃ d τ1 p y k kvs,r = .ok d τ1/\mo ⟨ρ.c,τ1⟩ = .ok (.ob p)/\mk ⟨ρ.c,τ1⟩ = .ok y/\kP y = some k/\τ1 p = some (.dct kvs)/\kvs.length < sizeLine/\Φ (.nx ⟨ρ.c,aF τ1 p (.dct (fS kvs k d))⟩)
theorem oO (h:Ax mx ρ (BP mo mk ρ Φ)):Al (kH mo mk mx) ρ Φ:=λr ⟨r1,h1,h2⟩=>by
 obtain ⟨d,τ1,p,y,k,kvs,e,e1,e2,e3,e4,e5,q⟩:=h r1 h1
 subst e
 rw [MU (ρ:=⟨ρ.c,τ1⟩) e1 e2 e3 e4 e5 h2]
 exact q
theorem Mh (ho:mo ρ = .ok (.ob p)) (he:m ρ = .ok d) (hp:ρ.t p = some (.ls l)) (hl:l.length < sizeLine) (k:Φ (.nx ⟨ρ.c,aF ρ.t p (.ls (l++[d]))⟩)):Al (xj mo m) ρ Φ:=λr z=>(M0 ho he hp hl z)▸k
theorem Df (h:Ax mx ρ (λr=>match r with
  | .ok d τ=>Φ (.nx (match j with | some i=>(⟨ρ.c,τ⟩:Ev).set i (some (.v d)) | none=>⟨ρ.c,τ⟩))
  | .ex c τ=>∀ r,nu sub c (kh F ⟨ρ.c,τ⟩) hs r->Φ r
  | .bad=>Φ .bad)):Al (zb j sub F mx hs) ρ Φ:=λr ⟨r1,h1,h2⟩=>by
 have z:=h r1 h1
 cases r1 with
 | ok d τ=>rw [show r = _ from h2]; exact z
 | ex c τ=>exact z r h2
 | bad=>rw [show r = _ from h2]; exact z
end
end L2
end
section
namespace L2
open PySem PySem.Spec PyProof.Rows
def hV (x y:Str):Prop:=¬(y.cps.toList < x.cps.toList)
instance (x y:Str):Decidable (hV x y):=by unfold hV; exact inferInstance
theorem vn (h:hV x y) (k:hV y z):hV x z:=List.not_lt.mpr (List.le_trans (List.not_lt.mp h) (List.not_lt.mp k))
theorem EE (x y:Str):hV x y\/hV y x:=by
 by_cases h:hV x y
 ·exact .inl h
 ·refine .inr ?_
  unfold hV at h ⊢
  have h:=Classical.not_not.mp h
  exact λz=>absurd (List.lt_trans h z) (List.lt_irrefl _)
theorem Ft (h:hV x y) (k:hV y x):x = y:=zj (List.le_antisymm (List.not_lt.mp h) (List.not_lt.mp k))
def uc (x:Str):List Str->List Str
 | []=>[x]
 | y::r=>if hV x y then x::y::r else y::uc x r
def fv:List Str->List Str
 | []=>[]
 | x::r=>uc x (fv r)
theorem pG (x:Str):∀ l,(uc x l).Perm (x::l)
 | []=>.refl _
 | y::r=>by
   unfold uc
   split
   ·exact .refl _
   ·exact ((pG x r).cons y).trans (.swap _ _ _)
theorem jJ:∀ l,(fv l).Perm l
 | []=>.refl _
 | x::r=>(pG x _).trans ((jJ r).cons x)
theorem kr (l:List Str):(fv l).length = l.length:=(jJ l).length_eq
theorem w4:x∈fv l↔x∈l:=(jJ l).mem_iff
theorem Az (x:Str):∀ l,l.Pairwise hV->(uc x l).Pairwise hV
 | [],_=>List.pairwise_singleton _ _
 | y::r,h=>by
   unfold uc
   split
   ·rename_i c
    refine List.pairwise_cons.mpr ⟨λz hz=>?_,h⟩
    rcases List.mem_cons.mp hz with e | hz
    ·rw [e]; exact c
    ·exact vn c ((List.pairwise_cons.mp h).1 z hz)
   ·rename_i c
    refine List.pairwise_cons.mpr ⟨λz hz=>?_,Az x r (List.pairwise_cons.mp h).2⟩
    rcases List.mem_cons.mp ((pG x r).mem_iff.mp hz) with e | hz
    ·rw [e]; exact (EE x y).resolve_left c
    ·exact (List.pairwise_cons.mp h).1 z hz
theorem uV:∀ l,(fv l).Pairwise hV
 | []=>.nil
 | x::r=>Az x _ (uV r)
theorem pA:∀ {l m:List Str},l.Perm m->l.Pairwise hV->m.Pairwise hV->l = m
 | [],m,p,_,_=>(List.Perm.nil_eq p)
 | x::l,[],p,_,_=>absurd p.length_eq (by simp)
 | x::l,y::m,p,h,k=>by
   have e:x = y:=by
    by_cases e:x = y
    ·exact e
    have h1:x∈m:=(List.mem_cons.mp (p.mem_iff.mp (List.mem_cons_self ..))).resolve_left e
    have h2:y∈l:=(List.mem_cons.mp (p.mem_iff.mpr (List.mem_cons_self ..))).resolve_left (Ne.symm e)
    exact Ft ((List.pairwise_cons.mp h).1 y h2) ((List.pairwise_cons.mp k).1 x h1)
   subst e
   rw [pA (List.perm_cons x |>.mp p) (List.pairwise_cons.mp h).2 (List.pairwise_cons.mp k).2]
theorem vQ:∀ (p:Str) (l:List Str),risingS p l = true->(p::l).Pairwise hV
 | p,[],_=>List.pairwise_singleton _ _
 | p,x::r,h=>by
   have h:(!ltCps x.cps.toList p.cps.toList && risingS x r) = true:=h
   rw [Bool.and_eq_true] at h
   have ih:=vQ x r h.2
   have c:hV p x:=by
    have:=h.1
    rw [ltCps_eq] at this
    unfold hV
    simpa using this
   refine List.pairwise_cons.mpr ⟨λz hz=>?_,ih⟩
   rcases List.mem_cons.mp hz with e | hz
   ·rw [e]; exact c
   ·exact vn c ((List.pairwise_cons.mp ih).1 z hz)
theorem vO:∀ (l:List Str),sortedS l = true->l.Pairwise hV
 | [],_=>.nil
 | x::r,h=>vQ x r h
theorem r8:∀ {ys:List Str} {its:List Value},Vals (ys.map V.str) its->StrsAre its ys
 | [],its,h=>by cases h; exact .nil
 | y::r,its,h=>by
   cases h with
   | cons a b=>obtain ⟨t,rfl⟩:=a; exact .cons _ _ (r8 b)
theorem iH:∀ {ys:List Str} {its:List Value},StrsAre its ys->Vals (ys.map V.str) its
 | [],its,h=>by cases h; exact .nil
 | y::r,its,h=>by cases h with | cons x t k=>exact .cons ⟨t,rfl⟩ (iH k)
section
variable {X:Cx} {E:XK} {K:W.Frag} {a e:Expr} {m:ME} {p p2 pos pos2:Pos}
def GS (K:W.Frag):List V->Hp->VK->Prop:=λxs H Q=>match xs with
 | [.ref l]=>∃ ys:List Str,cR K H l (ys.map V.str)/\ys.length < 64/\∀ d,H d = none->Q (.ref d) (upd H d (.lst ((fv ys).map V.str)))
 | _=>False
theorem FF:cq X (.builtin "sorted") (GS X.K):=by
 intro pins s σ H xs us Q I r h
 unfold GS at h
 split at h
 ·obtain ⟨ys,h1,h2,h3⟩:=h
  obtain ⟨u,rfl,ru⟩:=vals1 r
  cases ru
  obtain ⟨its,rv,pl,hz⟩:=I.list h1
  have hS:=r8 rv
  have hlen:its.length = ys.length:=by rw [←rv.length,List.length_map]
  refine sorted_strs pl.isList hS (by rw [hlen]; exact h2) λout ss' a1 a2 a3=>?_
  have e:ss' = fv ys:=pA (a2.trans (jJ ys).symm) (vO _ a3) (uV ys)
  subst e
  obtain ⟨en,he⟩:=sortedAll_at s.heap its out
  have hn:s.heap.objs.size<=s.heap.objs.size+1:=Nat.le_succ _
  refine ⟨.ref (s.heap.objs.size+1),_,I.laid (t':=s.toks) (a:=s.heap.objs.size+1) (o:=.lst ((fv ys).map V.str)) (λb u e=>sortedAll_old e) hn ⟨?_,out.toList,en,iH a1,he⟩,rfl,h3 _ (I.bt.fresh hn)⟩
  rw [List.length_map,kr]
  have:(64:Nat)<=sizeLine:=by decide
  omega
 ·exact h.elim
def rJ (d:Dv):Rs Dv:=match d with
 | .lst l=>(match strsOf l with
   | some ys=>if ys.length < 64 then .ok (.lst ((fv ys).map Dv.str)) else .bad
   | none=>.bad)
 | _=>.bad
theorem len_strs:∀ {l:List Dv} {ys:List Str},strsOf l = some ys->l = ys.map Dv.str
 | [],ys,h=>by cases h; rfl
 | .str x::r,ys,h=>by
   unfold strsOf at h
   cases z:strsOf r with
   | none=>rw [z] at h; cases h
   | some q=>rw [z] at h; cases h; rw [len_strs z]; rfl
 | .non::r,ys,h=>by cases h
 | .bl _::r,ys,h=>by cases h
 | .int _::r,ys,h=>by cases h
 | .tup _::r,ys,h=>by cases h
 | .lst _::r,ys,h=>by cases h
 | .seq _::r,ys,h=>by cases h
 | .ob _::r,ys,h=>by cases h
 | .exc _::r,ys,h=>by cases h
theorem rV:∀ {ys:List Str},(∀ y∈ys,y.length<=sizeLine)->a7 K Z H (ys.map Dv.str) (ys.map V.str)
 | [],_=>rfl
 | y::r,h=>⟨_,_,rfl,⟨rfl,h y (List.mem_cons_self ..)⟩,rV λz hz=>h z (List.mem_cons_of_mem _ hz)⟩
theorem vE:∀ {ys:List Str} {xs:List V},a7 K Z H (ys.map Dv.str) xs->∀ y∈ys,y.length<=sizeLine
 | [],_,_,y,h=>nomatch h
 | y::r,_,⟨x,s,h0,h1,h2⟩,z,hz=>by
   rcases List.mem_cons.mp hz with e | hz
   ·rw [e]; exact h1.2
   ·exact vE h2 z hz
theorem Oa:ng K (λx=>GS K [x]) rJ:=by
 intro mg E Z H x d Q hz hx o
 unfold rJ at o
 cases d with
 | lst l=>
   dsimp only at o
   split at o
   ·rename_i ys hy
    split at o
    ·rename_i hl
     obtain ⟨a,xs,rfl,h1,h2,h3⟩:=hx
     have e1:=xW hy h3
     have e2:=len_strs hy
     subst e1 e2
     refine ⟨ys,h1.sq,hl,λp hp=>?_⟩
     have s2:aK H (upd H p (.lst ((fv ys).map V.str))):=(aK.refl _).upd hp
     refine o _ s2 _ ⟨p,_,rfl,.inl ⟨bj,λz=>hz p z hp⟩,?_,rV λy hy=>vE h3 y (w4.mp hy)⟩
     rw [List.length_map,kr]
     rw [List.length_map] at h2
     exact h2
    ·exact o.elim
   ·exact o.elim
 | _=>exact o.elim
def n0:List (Key×Dv)->Option (List Str)
 | []=>some []
 | (.inr x,_)::r=>(n0 r).map (x::·)
 | _=>none
def HJ:List V->Hp->VK->Prop:=λxs H Q=>match xs with
 | [.ref l]=>∃ (kvs:List (Key×V)) (ys:List Str),H l = some (.dK kvs)/\kvs.map (·.1) = ys.map Sum.inr/\ys.length < 64/\∀ d,H d = none->Q (.ref d) (upd H d (.lst ((fv ys).map V.str)))
 | _=>False
theorem l6:∀ {ys:List Str} {vs:List Value},vs.length = ys.length->(∀ (j:Nat) y v,ys[j]? = some y->vs[j]? = some v->∃ t,v = .str y t)->StrsAre vs ys
 | [],[],_,_=>.nil
 | y::r,v::vs,hl,h=>by
   obtain ⟨t,rfl⟩:=h 0 y v rfl rfl
   exact .cons _ _ (l6 (by simpa using hl) λj y' v' h1 h2=>h (j+1) y' v' (by simpa using h1) (by simpa using h2))
 | [],_::_,hl,_=>by simp at hl
 | _::_,[],hl,_=>by simp at hl
theorem HD (I:Inv X pins σ H s) (k:∀ b u,s.heap.get? b = some u->h'.get? b = some u) (hg:s.heap.get? b = none) (hn:H b = none) (new:dD X.prog X.w (upd H b o) h' b o):
  Inv X pins σ (upd H b o) { s with heap:=h',toks:=t' }:=by
 refine I.un ⟨λc u q _ _ _=>k c u q,λc u q _ _ _=>⟨u.slots,k c u q⟩,λc u q n _=>?_,λc u q _=>⟨u,k c u q⟩,λc xs q=>by rw [aZ (dB q hn)]; exact q,λc u xs q=>by rw [aZ (dB q hn)]; exact q,λc ps q=>⟨#[],by rw [aZ (dB q hn),q]; simp⟩⟩ λc u e=>?_
 ·rw [aZ (λz=>by rw [z,hg] at q; cases q)]; exact n
 ·by_cases hb:c = b
  ·subst hb; rw [bj] at e; cases e; exact new
  ·rw [aZ hb] at e
   exact (I.bt c u e).nP (λc v _ q=>k c v q) (λc q=>by rw [aZ (dB q hn)]; exact q) λc xs q=>by rw [aZ (dB q hn)]; exact q
theorem dD.here (x:dD P w H h b o):∃ u,h.get? b = some u:=by
 cases o with
 | lst xs=>obtain ⟨_,_,_,_,e⟩:=x; exact ⟨_,e⟩
 | tup xs=>obtain ⟨_,_,_,_,e,_⟩:=x; exact ⟨_,e⟩
 | dK kvs=>obtain ⟨_,_,_,_,_,_,_,e,_⟩:=x; exact ⟨_,e⟩
 | set S n=>obtain ⟨_,_,_,_,e,_⟩:=x; exact ⟨_,e⟩
 | ins C dx fs=>exact ⟨_,x.2.2.2.1⟩
 | own _=>exact x
 | xd fs=>obtain ⟨_,⟨_,_,_,e,_⟩,_⟩:=x; exact ⟨_,e⟩
 | rng lo hi=>obtain ⟨_,_,_,e⟩:=x; exact ⟨_,e⟩
 | dt o u=>exact ⟨_,x.1⟩
 | tbl ps=>exact ⟨_,x⟩
 | met f y=>exact ⟨_,x⟩
 | ext φ=>exact x.2.1
theorem D1 (hc:X.calm = true):cq X (.builtin "sorted") HJ:=by
 intro pins s σ H xs us Q I r h
 unfold HJ at h
 split at h
 ·rename_i l
  obtain ⟨kvs,ys,h1,h2,h4,h3⟩:=h
  obtain ⟨u,rfl,ru⟩:=vals1 r
  cases ru
  obtain ⟨hz,lo,vs,kv,hD⟩:=I.bt _ _ h1
  obtain ⟨ep,hat⟩:=hD.dictAt
  have lenk:vs.length = ys.length:=by
   have e1:=congrArg List.length h2
   rw [List.length_map,List.length_map] at e1
   rw [←kv.length,e1]
  have h64:(64:Nat)<=sizeLine:=by decide
  refine Calls.call_function_entry kind_sorted plain_sorted entry_sorted (args_sorted1 _) ?_
  unfold Builtin.«sorted»
  refine wpAny_bind (m:=checkCount "sorted" 1 1 _) (wpAny_pure ?_)
  refine wpAny_bind (PySem.W.kdu_collect (A:=X.A.in1) (PySem.W.kdl_dict (knd:=gR X.prog X.w) (kvs:=vs) (ep:=ep) lo) ?_ hat (by rw [lenk]; omega) λh' tk acc hk hacc=>?_)
  ·simpa using I.ok.hd hc
  have hS:StrsAre acc.toList ys:=l6 (by rw [Array.length_toList,hacc.1,lenk]) λj y v hy hv=>by
   obtain ⟨k,x,e1,e2⟩:=hacc.2 j v (by rw [←Array.getElem?_toList]; exact hv)
   have e3:(kvs.map (·.1))[j]? = some k:=by rw [kv.keys,List.getElem?_map,e1]; rfl
   rw [h2,List.getElem?_map,hy] at e3
   cases e3
   rcases dv (k:=Sum.inr y) (v:=v) e2 with ⟨i,t,c,_⟩ | ⟨z,t,c,d⟩
   ·cases c
   ·cases c; exact ⟨t,d⟩
  have hlen:acc.toList.length = ys.length:=by rw [Array.length_toList,hacc.1,lenk]
  refine wpAny_bind (wpAny_newList ?_ (by rw [hlen]; omega))
  have hoL:(h'.push (seqObj "list" acc.toList.toArray 0)).get? h'.objs.size = some (seqObj "list" acc.toList.toArray 0):=Heap.get?_push_size _ rfl
  show wpAny _ _ _ _ _ { s with heap:=h'.push (seqObj "list" acc.toList.toArray 0),toks:=tk }
  refine wpAny_bind (wpAny_holding (wpAny_call_entry slot_list_sort ⟨_,hoL,rfl⟩ entry_list_sort (list_sort_treeK strKind_oneLt hoL hS.keysOf (λv₁ v₂ rest e=>keyKind_strs (by rw [←e]; exact hS)) (by rw [hlen]; exact h4) λst' a1 a2=>⟨_,rfl,?_⟩) (args_list_sort _)))
  refine wpAny_pure ⟨_,rfl,?_⟩
  obtain ⟨ss',b1,b2,b3⟩:=sorted_out_str hS a1 a2
  have e:ss' = fv ys:=pA (b2.trans (jJ ys).symm) (vO _ b3) (uV ys)
  subst e
  obtain ⟨en,he⟩:=sortedHeap_at (out:=(arrOf st').map (·.2)) hoL
  have hg:s.heap.get? h'.objs.size = none:=by
   cases z:s.heap.get? h'.objs.size with
   | none=>rfl
   | some u=>exact absurd (Heap.lt_size (hk _ _ z)) (Nat.lt_irrefl _)
  have hn:H h'.objs.size = none:=by
   cases z:H h'.objs.size with
   | none=>rfl
   | some u=>obtain ⟨v,e⟩:=(I.bt _ _ z).here; rw [hg] at e; cases e
  have old:∀ b u,s.heap.get? b = some u->(sortedHeap (h'.push (seqObj "list" acc.toList.toArray 0)) h'.objs.size acc.toList ((arrOf st').map (·.2))).get? b = some u:=λb u e=>by
   have e1:=hk b u e
   have l1:=Heap.lt_size e1
   rw [sortedHeap_old (Nat.ne_of_lt l1) (by rw [size_push']; exact Nat.lt_succ_of_lt l1)]
   exact Heap.get?_push_of_some _ e1
  have hq:=h3 _ hn
  show ∃ v H',Inv X pins σ H' { s with heap:=sortedHeap (h'.push (seqObj "list" acc.toList.toArray 0)) h'.objs.size acc.toList ((arrOf st').map (·.2)),toks:=tk }/\RelV v (.ref h'.objs.size)/\Q v H'
  generalize sortedHeap (h'.push (seqObj "list" acc.toList.toArray 0)) h'.objs.size acc.toList ((arrOf st').map (·.2)) = HH at he old ⊢
  refine ⟨.ref h'.objs.size,_,HD (t':=tk) I old hg hn (o:=.lst ((fv ys).map V.str)) ⟨?_,_,en,iH b1,he⟩,rfl,hq⟩
  rw [List.length_map,kr]
  omega
 ·exact h.elim
end
end L2
end
section
namespace L2
open PySem PySem.Spec PyProof.Rows
section
variable {X:Cx} {E:XK} {K:W.Frag} {a e o i f:Expr} {ma m mo mk:ME} {p p2 pos pos2 apos cpos:Pos} {k:Nat}
def zk (τ:cw) (d:Dv):Rs Dv:=match pK τ d with
 | some kvs=>(match n0 kvs with
   | some ys=>if ys.length < 64/\(ys.all λy=>decide (y.length<=sizeLine)) = true then .ok (.lst ((fv ys).map Dv.str)) else .bad
   | none=>.bad)
 | none=>.bad
def HW (a:ME):ME:=λρ=>(a ρ).bind (zk ρ.t)
theorem Bf {Z:Addr->Prop} {H:Hp}:∀ {kvs:List (Key×Dv)} {vs:List (Key×V)} {ys:List Str},dh K Z H kvs vs->n0 kvs = some ys->vs.map (·.1) = ys.map Sum.inr
 | [],_,ys,h,e=>by rw [show _ = [] from h]; cases e; rfl
 | (.inr x,d)::r,_,ys,⟨v,s,h0,h1,h2⟩,e=>by
   subst h0
   unfold n0 at e
   cases z:n0 r with
   | none=>rw [z] at e; cases e
   | some q=>
     rw [z] at e; cases e
     rw [List.map_cons,Bf h2 z]; rfl
 | (.inl x,d)::r,_,ys,_,e=>by cases e
theorem K8 (hm:X.mg "sorted" = none) (ha:DB X E a ma) (hst:isStar a = false:=by rfl) (hc:X.calm = true:=by rfl) (hg:Gl X "sorted":=by rfl):DE X E (.Call (.Name "sorted" p) [a] [] pos) (HW ma):=
 (gJ (D1 hc) hg hm boot_sorted (d6 ha dm hst) (by decide) (by decide) (b5 hst) (cu rfl)).imp λσ H Q ⟨B,P,ρ,r,o⟩=>
  ⟨B,P,ρ,r,o.bind λd H1 _ s1 o1 v hv=>by
    unfold zk at o1
    split at o1
    ·rename_i kvs h1
     split at o1
     ·rename_i ys hy
      split at o1
      ·rename_i hl
       obtain ⟨p,vs,e1,e2,e3⟩:=dY (r.same s1) hv h1
       rw [e1]
       refine ⟨vs,ys,e2,Bf e3 hy,hl.1,λq hq=>?_⟩
       have s2:aK H1 (upd H1 q (.lst ((fv ys).map V.str))):=(aK.refl _).upd hq
       refine o1 _ s2 _ ⟨q,_,rfl,.inl ⟨bj,λz=>(r.same s1).old q z hq⟩,?_,rV λy hy=>?_⟩
       ·rw [List.length_map,kr]
        have:(64:Nat)<=sizeLine:=by decide
        omega
       ·have:=List.all_eq_true.mp hl.2 y (w4.mp hy)
        exact of_decide_eq_true this
      ·exact o1.elim
     ·exact o1.elim
    ·exact o1.elim⟩
end
end L2
end
section
namespace L2
open PySem PySem.Spec PyProof.Rows
mutual
def vF (K:W.Frag) (H:Hp):PyData->V->Prop
 | .none,v=>v = .non
 | .bool b,v=>v = .bl b
 | .int i,v=>v = .int i
 | .str x,v=>v = .str x
 | .list xs,v=>∃ a vs,v = .ref a/\cR K H a vs/\yq K H xs vs
 | .tuple xs,v=>∃ a vs,v = .ref a/\dz K H a vs/\yq K H xs vs
 | .dict _,_=>False
def yq (K:W.Frag) (H:Hp):List PyData->List V->Prop
 | [],vs=>vs = []
 | d::l,vs=>∃ v r,vs = v::r/\vF K H d v/\yq K H l r
end
section
mutual
theorem kL (I:Inv X pins σ H s):∀ {d:PyData} {v:V} {u:Value},vF X.K H d v->RelV v u->∃ as,Reads s.heap u d as
 | .none,_,u,h,r=>by rw [show _ = V.non from h] at r; rw [show u = _ from r]; exact ⟨_,.none⟩
 | .bool b,_,u,h,r=>by rw [show _ = V.bl b from h] at r; rw [show u = _ from r]; exact ⟨_,.bool b⟩
 | .int i,_,u,h,r=>by rw [show _ = V.int i from h] at r; obtain ⟨t,rfl⟩:=(show ∃ t,u = _ from r); exact ⟨_,.int i t⟩
 | .str x,_,u,h,r=>by rw [show _ = V.str x from h] at r; obtain ⟨t,rfl⟩:=(show ∃ t,u = _ from r); exact ⟨_,.str x t⟩
 | .list xs,_,u,⟨a,vs,h0,h1,h2⟩,r=>by
   subst h0
   rw [show u = Value.ref a from r]
   obtain ⟨its,rv,⟨o,n,g1,g2,_,g3⟩,_⟩:=I.list h1
   obtain ⟨as,q⟩:=lK I h2 rv
   exact ⟨_,.list g1 g2 g3 q⟩
 | .tuple xs,_,u,⟨a,vs,h0,h1,h2⟩,r=>by
   subst h0
   rw [show u = Value.ref a from r]
   obtain ⟨its,rv,p,_⟩:=I.tuple h1
   obtain ⟨o,g1,g2,n,g3⟩:=p
   obtain ⟨as,q⟩:=lK I h2 rv
   exact ⟨_,.tuple g1 g2 g3 q⟩
 | .dict _,_,_,h,_=>h.elim
theorem lK (I:Inv X pins σ H s):∀ {l:List PyData} {vs:List V} {us:List Value},yq X.K H l vs->Vals vs us->∃ as,ReadsAll s.heap us l as
 | [],vs,us,h,r=>by rw [show vs = [] from h] at r; cases r; exact ⟨_,.nil⟩
 | d::l,vs,us,⟨v,w,h0,h1,h2⟩,r=>by
   subst h0
   cases r with
   | cons a b=>
     obtain ⟨as,q1⟩:=kL I h1 a
     obtain ⟨bs,q2⟩:=lK I h2 b
     exact ⟨_,.cons q1 q2⟩
end
end
section
variable {X:Cx} {E:XK} {K:W.Frag} {k:Nat}
def Pd (K:W.Frag):R2:=λx y H Q=>∃ da db,vF K H da x/\vF K H db y/\da.canLay0 = true/\db.canLay0 = true/\min da.depth db.depth<=60/\Q (.bl (PyData.eqv da db)) H
def LS (K:W.Frag):R2:=λx y H Q=>∃ da db,vF K H da x/\vF K H db y/\da.canLay0 = true/\db.canLay0 = true/\min da.depth db.depth<=60/\Q (.bl (!PyData.eqv da db)) H
theorem P9 (hr:bI k X.A):b4 X (compareOp .Eq) (Pd X.K):=by
 intro pins s σ H x y v u Q I rx ry ⟨da,db,h1,h2,h3,h4,h5,q⟩
 obtain ⟨as,r1⟩:=kL I h1 rx
 obtain ⟨bs,r2⟩:=kL I h2 ry
 exact SeqAt.compareEq_reads r1 r2 h3 h4 (by have:=hr.units; omega) ⟨.bl _,H,I,rfl,q⟩
theorem Nm (hr:bI k X.A):b4 X (compareOp .NotEq) (LS X.K):=by
 intro pins s σ H x y v u Q I rx ry ⟨da,db,h1,h2,h3,h4,h5,q⟩
 obtain ⟨as,r1⟩:=kL I h1 rx
 obtain ⟨bs,r2⟩:=kL I h2 ry
 exact SeqAt.compareNe_reads r1 r2 h3 h4 (by have:=hr.units; omega) ⟨.bl _,H,I,rfl,q⟩
mutual
def kl:Dv->Option PyData
 | .non=>some .none
 | .bl b=>some (.bool b)
 | .int i=>some (.int i)
 | .str x=>some (.str x)
 | .tup l=>(iG l).map .tuple
 | .lst l=>(iG l).map .list
 | .seq l=>(iG l).map .list
 | .ob _=>none
 | .exc _=>none
def iG:List Dv->Option (List PyData)
 | []=>some []
 | d::l=>match kl d,iG l with
   | some a,some b=>some (a::b)
   | _,_=>none
end
mutual
theorem Dm:∀ {d:Dv} {v:V} {a:PyData},Rp K Z H d v->kl d = some a->vF K H a v
 | .non,_,_,h,e=>by cases e; exact h
 | .bl _,_,_,h,e=>by cases e; exact h
 | .int _,_,_,h,e=>by cases e; exact h
 | .str _,_,_,h,e=>by cases e; exact h.1
 | .tup l,_,a,⟨p,xs,h0,h1,h2,h3⟩,e=>by
   unfold kl at e
   cases z:iG l with
   | none=>rw [z] at e; cases e
   | some q=>rw [z] at e; cases e; exact ⟨p,xs,h0,h1,mZ h3 z⟩
 | .lst l,_,a,⟨p,xs,h0,h1,h2,h3⟩,e=>by
   unfold kl at e
   cases z:iG l with
   | none=>rw [z] at e; cases e
   | some q=>rw [z] at e; cases e; exact ⟨p,xs,h0,Rd.sq h1.rd,mZ h3 z⟩
 | .seq l,_,a,⟨p,xs,h0,h1,_,h2,h3⟩,e=>by
   unfold kl at e
   cases z:iG l with
   | none=>rw [z] at e; cases e
   | some q=>rw [z] at e; cases e; exact ⟨p,xs,h0,h1,mZ h3 z⟩
 | .ob _,_,_,_,e=>by cases e
 | .exc _,_,_,_,e=>by cases e
theorem mZ:∀ {l:List Dv} {xs:List V} {q:List PyData},a7 K Z H l xs->iG l = some q->yq K H q xs
 | [],_,_,h,e=>by cases e; exact h
 | d::l,_,q,⟨x,r,h0,h1,h2⟩,e=>by
   unfold iG at e
   cases z1:kl d with
   | none=>rw [z1] at e; cases e
   | some a=>
     cases z2:iG l with
     | none=>rw [z1,z2] at e; cases e
     | some b=>rw [z1,z2] at e; cases e; exact ⟨x,r,h0,Dm h1 z1,mZ h2 z2⟩
end
theorem DP (h:gq K Z H d v) (e:kl d = some a):vF K H a v:=by
 cases d with
 | lst l=>
   obtain ⟨p,xs,h0,h1,h2,h3⟩:=h
   unfold kl at e
   cases z:iG l with
   | none=>rw [z] at e; cases e
   | some q=>rw [z] at e; cases e; exact ⟨p,xs,h0,Rd.sq h1,mZ h3 z⟩
 | _=>exact Dm (Z:=Z) h e
def C7 (a b:PyData):Bool:=a.canLay0 && b.canLay0 && decide (min a.depth b.depth<=60)
def Qb (d d':Dv):Rs Dv:=match kl d,kl d' with
 | some a,some b=>if C7 a b = true then .ok (.bl (PyData.eqv a b)) else .bad
 | _,_=>.bad
def nQ (d d':Dv):Rs Dv:=match kl d,kl d' with
 | some a,some b=>if C7 a b = true then .ok (.bl (!PyData.eqv a b)) else .bad
 | _,_=>.bad
theorem NX:c6 K (LS K) nQ:=by
 intro mg E Z H x y d d' Q hz hx hy o
 unfold nQ at o
 split at o
 ·rename_i a b h1 h2
  split at o
  ·rename_i hg
   unfold C7 at hg
   simp only [Bool.and_eq_true,decide_eq_true_eq] at hg
   exact ⟨a,b,DP hx h1,DP hy h2,hg.1.1,hg.1.2,hg.2,o.ok _ rfl⟩
  ·exact o.elim
 ·exact o.elim
end
end L2
end
section
namespace L2
open PySem PySem.Spec PyProof.Rows PySem.SeqAt PySem.MeetsSeq
section
variable {X:Cx} {E:XK} {K:W.Frag} {mg:Str->Option Value} {e o i:Expr} {ms:MA} {mo me:ME} {σ:St} {H:Hp} {Q:VK} {k:Nat} {pos:Pos}
section
variable {elt tg iter:Expr} {ifs:List Expr} {scope:Scope} {N:List Str} {fr:List Nat} {nt:Nat} {g:Dv->Ev->Rs Ev} {mt:MT} {m:ME}
end
end
section
variable {X:Cx} {E:XK} {K:W.Frag} {e o:Expr} {mo me:ME} {k:Nat} {pos:Pos}
end
end L2
end
section
namespace L2
open PySem PySem.Spec PyProof.Rows
section
variable {X:Cx} {E:XK} {q:Bool} {x n:Str} {np pos:Pos} {b₀:Stmt} {suite body:List Stmt} {rest:List ExceptHandler} {sub:Str->Str->Option Bool} {mh mb:MS} {hs:List (Str×Option Nat×MS)} {h₀:ExceptHandler} {F:List Nat}
end
def iI (a:MX) (t u:MW):MW:=lC a λd _ ρ r=>match d with
 | .bl true=>u ρ r
 | .bl false=>t ρ r
 | _=>r = .bad
section
variable {X:Cx} {E:XK} {a:Expr} {mx:MX} {w u:MW} {body orelse:List Stmt} {p pos:Pos}
theorem rW (ha:WE X E a mx) (hA:jf X E body w) (hB:jf X E orelse u) (he:∀ whole,isTrue a X.env whole = (do let v ←whole; standAt a.pos; holding [v] (truthy v)):=by intro _; rfl):WS X E (.If (.UnaryOp .Not a p) body orelse pos) (iI mx w u):=
 (CI (DZ (HM ha he)) hA hB).imp λD σ H ⟨B,P,ρ,r,o⟩=>kj r o λd τ v B' H' s e hv o=>by
  cases d with
  | bl b=>
    rw [show v = _ from hv]
    cases b with
    | true=>exact Bs (A:=tW X.K X.mg E w D σ H') ⟨B',P,_,e,o⟩
    | false=>exact Bq (B:=tW X.K X.mg E u D σ H') ⟨B',P,_,e,o⟩
  | _=>exact (o .bad rfl).elim
end
end L2
end
section
namespace L2
open PySem PySem.Spec PyProof.Rows
section
variable {P:Program} {w:World} {K:W.Frag} {mg:Str->Option Value} {base:Heap} {x:Str} {st:Stmt} {N ps:List Str} {k:Nat}
end
section
end
end L2
end
section
namespace L2
open PySem PySem.Spec PyProof.Rows
def cG (c mm:Str) (f:DF) (mo:ME) (ms:MA):ME:=λρ=>(mo ρ).bind λd=>match iw ρ.t d with
 | some (p,c',fs)=>if c' = c/\fs.lookup mm = none then (ms ρ).bind λl=>f ρ.t (.ob p::l) else .bad
 | none=>.bad
def MethP (P:Program) (w:World) (K:W.Frag) (mg:Str->Option Value) (base:Heap) (c m:Str) (j:Nat) (f:DF):Prop:=∃ fa fd ps,je K (dE K c)/\Meth K (dE K c) m fa/\Binds K fd ps []/\dG P w K mg base (dF P w) j fa fd ps (ic K mg f)
section
variable {P:Program} {w:World} {K:W.Frag} {mg:Str->Option Value} {base:Heap} {c y qual:Str} {st:Stmt} {N ps:List Str} {k:Nat}
theorem sh (F:eF K c y qual st ps) (S:aD N ps (ah st)) (hps:ps.length<=N.length)
  (hbody:∀ (f:Addr) (cdv:Value) (A:Around) (outer:List Env) (s:Shared) (H:Hp) (E:XK),bI k (A.deeper (envOfC qual (ah st) s.heap.objs.size f cdv))->mH (fT (dF P w) P w K mg base N qual (ah st) f cdv A outer s H E) E false (c9 st) m):
  MethP P w K mg base c y (k+1) (aV N.length ps.length m):=by
 obtain ⟨fa,fd,h1,h2,h3,h4⟩:=F
 refine ⟨fa,fd,ps,h1,h2,Binds.all h4,?_⟩
 have len:∀ vs H Q E,ic K mg (aV N.length ps.length m) vs H Q E->vs.length = ps.length:=λvs H Q E ⟨Z,τ,ds,h1,h0,h2,h3⟩=>by
  unfold aV at h3
  split at h3
  ·rename_i hl; rw [h2.len]; exact hl
  ·exact h3.elim
 refine h3.Lz S len λcdv A outer s H vs Q E hr ⟨Z,τ,ds,h1,h0,h2,h3⟩=>?_
 have hl:=len vs H Q E ⟨Z,τ,ds,h1,h0,h2,h3⟩
 exact ⟨_,hbody fa cdv A outer s H E hr,Z,λ_=>False,aE N.length τ ds,oN h1 h0 h2 (by rw [←h2.len,hl]; exact hps),Ap h3⟩
end
section
variable {X:Cx} {E:XK} {o e:Expr} {es:List Expr} {mo:ME} {ms:MA} {pos apos:Pos} {j k:Nat} {mm c:Str} {f:DF}
theorem sG {K:W.Frag} {Z:Addr->Prop} {H:Hp}:∀ {fs:List (Str×Dv)} {vs:List (Str×V)},dh K Z H fs vs->fs.lookup mm = none->vs.lookup mm = none
 | [],vs,g,_=>by rw [show vs = [] from g]; rfl
 | (f0,d0)::l,_,⟨w0,s0,e0,_,e2⟩,hc=>by
   subst e0
   by_cases hk:mm = f0
   ·subst hk; rw [List.lookup_cons_self] at hc; cases hc
   ·have hb:(mm == f0) = false:=by simpa using hk
    rw [List.lookup_cons,hb] at hc ⊢
    exact sG e2 hc
theorem A0 (hT:∀ σ H Q,HY X.K X.mg E ms σ H Q->t σ H Q) (h:tD X.K X.mg E (cG c mm f mo ms) σ H Q):CL (dE X.K c) mm (ic X.K X.mg f) [] E (tD X.K X.mg E mo) t σ H Q:=by
 obtain ⟨B,P,ρ,r,o⟩:=h
 refine ⟨B,P,ρ,r,o.bind λd H1 _ s1 o1 v hv=>?_⟩
 cases zi:iw ρ.t d with
 | none=>rw [zi] at o1; exact o1.elim
 | some t=>
   obtain ⟨a,c',fs⟩:=t
   rw [zi] at o1
   dsimp only at o1
   obtain ⟨hd,ht⟩:=AB zi
   by_cases hc:c' = c/\fs.lookup mm = none
   ·rw [if_pos hc] at o1
    obtain ⟨hc1,hc2⟩:=hc
    subst hc1 hd
    obtain ⟨dx,vs,g1,g2⟩:=((r.same s1).st a _ ht).2
    refine ⟨a,dx,vs,hv,g1,sG g2 hc2,hT _ _ _ ⟨B,P,ρ,r.same s1,o1.bind λl H2 _ s2 o2 us hus=>?_⟩⟩
    dsimp only
    rw [List.append_nil]
    exact ⟨ZU B P,ρ.t,.ob a::l,(r.same (s1.trans s2)).old,(r.same (s1.trans s2)).st,⟨_,_,rfl,hv,hus⟩,o2⟩
   ·rw [if_neg hc] at o1; exact o1.elim
theorem tR (px:PX X E) (M:MethP X.prog X.w X.K X.mg X.base c mm j f) (hr:bI k X.A) (ho:DE X E o mo) (ha:DA X E (e::es) ms) (hj:j<=k:=by first | decide | omega)
  (he:isStar e = false:=by rfl) (hpl:es.all (λe=>!isStar e) = true:=by rfl)
  (ht:eval (.Call (.Attribute o mm apos) (e::es) [] pos) X.env = (do
   let ov ←eval o X.env
   standAt apos.atName
   let (f,first) ←holding [ov] (getMethod ov mm pl)
   callWith pos f first (backTo pos (starEach (e::es) X.env)) (backToKw pos (keywordEach [] X.env))):=by rfl):
  DE X E (.Call (.Attribute o mm apos) (e::es) [] pos) (cG c mm f mo ms):=by
 obtain ⟨fa,fd,ps,h1,h2,h3,h4⟩:=M
 exact (A4 ho h1 h2 h4 (hr.mono hj) h3 .nil px.pass ha (b5 he) (cu hpl) ht).imp λσ H Q h=>A0 (λ_ _ _ z=>z) h
theorem ki (px:PX X E) (M:MethP X.prog X.w X.K X.mg X.base c mm j f) (hr:bI k X.A) (ho:DE X E o mo) (hj:j<=k:=by first | decide | omega)
  (ht:eval (.Call (.Attribute o mm apos) [] [] pos) X.env = (do
   let ov ←eval o X.env
   standAt apos.atName
   let (f,first) ←holding [ov] (getMethod ov mm pl)
   callWith pos f first (backTo pos (starEach [] X.env)) (backToKw pos (keywordEach [] X.env))):=by rfl):
  DE X E (.Call (.Attribute o mm apos) [] [] pos) (cG c mm f mo ai):=by
 obtain ⟨fa,fd,ps,h1,h2,h3,h4⟩:=M
 exact (F8 ho h1 h2 h4 (hr.mono hj) h3 .nil px.pass ht).imp λσ H Q h=>A0 (λ_ _ _ ⟨_,_,_,_,o⟩=>o.ok [] rfl) h
end
end L2
end
section
namespace L2
open PySem PySem.Spec PyProof.Rows
def nO (f:DF) (mx:MX) (ms:MA):MX:=λρ r=>∃ r1,mx ρ r1/\match r1 with
 | .ok d τ=>r = L3 τ ((ms ⟨ρ.c,τ⟩).bind λl=>f τ (d::l))
 | .ex c τ=>r = .ex c τ
 | .bad=>r = .bad
section
theorem wM (px:PX X E) (C:Callee X.prog X.w X.K X.mg X.base (dF X.prog X.w) x j ps (ic X.K X.mg f)) (hr:bI k X.A) (hx:WE X E e mx) (ha:DA X E es ms) (hj:j<=k:=by first | decide | omega) (hg:Gl X x:=by rfl) (hdb:(x == ("__debug__":Str)) = false:=by decide)
  (he:isStar e = false:=by rfl) (hpl:es.all (λe=>!isStar e) = true:=by rfl):WE X E (.Call (.Name x p) (e::es) [] pos) (nO f mx ms):=by
 refine (p4 px C hr (d6 hx ha he) hj hg hdb (b5 he) (cu hpl)).imp λσ H Q ⟨B,P,ρ,r,o⟩=>?_
 refine ⟨B,P,ρ,r,λr1 z=>?_⟩
 cases r1 with
 | bad=>exact o .bad ⟨_,z,rfl⟩
 | ex c τ'=>exact o (.ex c τ') ⟨_,z,rfl⟩
 | ok d τ'=>
   intro v B' H1 s1 e1 hv
   have o1:=o _ ⟨_,z,rfl⟩
   refine ⟨B',P,⟨ρ.c,τ'⟩,e1,?_⟩
   cases z2:ms ⟨ρ.c,τ'⟩ with
   | bad=>rw [z2] at o1; exact o1
   | ex c=>rw [z2] at o1; exact λH2 s2=>o1 B' H2 (s1.trans (.same s2)) (e1.same s2)
   | ok l=>
     rw [z2] at o1
     intro H2 s2 us hus
     show ic X.K X.mg f ((v::us)++[]) H2 Q E
     rw [List.append_nil]
     refine ⟨ZU B' P,τ',d::l,(e1.same s2).old,(e1.same s2).st,⟨_,_,rfl,hv.same s2,hus⟩,?_⟩
     cases z3:f τ' (d::l) with
     | bad=>rw [show (Rs.ok l).bind (λl=>f τ' (d::l)) = .bad from z3] at o1; exact o1
     | ex c=>rw [show (Rs.ok l).bind (λl=>f τ' (d::l)) = .ex c from z3] at o1; exact λH3 s3=>o1 B' H3 (s1.trans (.same (s2.trans s3))) (e1.same (s2.trans s3))
     | ok d2=>rw [show (Rs.ok l).bind (λl=>f τ' (d::l)) = .ok d2 from z3] at o1; exact λH3 s3 v hv=>o1 v B' H3 (s1.trans (.same (s2.trans s3))) (e1.same (s2.trans s3)) hv
end
end L2
end
section
namespace L2
open PySem PySem.Spec PyProof.Rows
def zo (f:Int->Int->Int):List V->Hp->VK->Prop:=λxs H Q=>match xs with
 | [.int a,.int b]=>Q (.int (f a b)) H
 | _=>False
def CM (f:Int->Int->Int):Dv->Dv->Rs Dv
 | .int a,.int b=>.ok (.int (f a b))
 | _,_=>.bad
section
variable {X:Cx} {E:XK} {K:W.Frag} {a b:Expr} {ma mb:ME} {x:Str} {pos p:Pos}
theorem Hu:c6 K (λx y=>zo f [x,y]) (CM f):=by
 intro mg E Z H x y d d' Q hz hx hy o
 cases d with
 | int i=>
   cases d' with
   | int j=>rw [show x = _ from hx,show y = _ from hy]; exact o.ok _ rfl
   | _=>exact o.elim
 | _=>exact o.elim
theorem B8 (hc:X.calm = true):cq X (.builtin "min") (zo λa b=>if b < a then b else a):=by
 intro pins s σ H xs us Q I r h
 unfold zo at h
 split at h
 ·obtain ⟨u,u',rfl,⟨t,rfl⟩,⟨t',rfl⟩⟩:=vals2 r
  refine PySem.min_two_ints (I.ok.hd hc) λh' tk k=>⟨_,H,I.kept k,?_,h⟩
  split
  ·rename_i z; exact ⟨t',by simp only [if_pos z]⟩
  ·rename_i z; exact ⟨t,by simp only [if_neg z]⟩
 ·exact h.elim
theorem B7 (hc:X.calm = true):cq X (.builtin "max") (zo λa b=>if b > a then b else a):=by
 intro pins s σ H xs us Q I r h
 unfold zo at h
 split at h
 ·obtain ⟨u,u',rfl,⟨t,rfl⟩,⟨t',rfl⟩⟩:=vals2 r
  refine PySem.max_two_ints (I.ok.hd hc) λh' tk k=>⟨_,H,I.kept k,?_,h⟩
  split
  ·rename_i z; exact ⟨t',by simp only [if_pos z]⟩
  ·rename_i z; exact ⟨t,by simp only [if_neg z]⟩
 ·exact h.elim
theorem EN (hp:c6 X.K (λx y=>r [x,y]) f) (h:tD X.K X.mg E (m2 f ma mb) σ H Q):Ht r (sx (lE X.K X.mg E ma) (sx (lE X.K X.mg E mb) yz)) σ H Q:=by
 obtain ⟨B,P,ρ,r,o⟩:=h
 exact ⟨B,P,ρ,r,o.bind λd H1 _ s1 o1 v hv=>⟨B,P,ρ,r.same s1,o1.bind λd' H2 _ s2 o2 v' hv'=>hp _ _ _ _ _ _ _ _ _ (r.same (s1.trans s2)).old (hv.same s2) hv' o2⟩⟩
theorem Dk {f:Dv->Dv->Rs Dv} {r:List V->Hp->VK->Prop} {id:String} (hc:cq X (.builtin id) r) (hp:c6 X.K (λx y=>r [x,y]) f) (hm:X.mg x = none) (hv:bootBuiltins x = some (.builtin id)) (ha:DB X E a ma) (hb:DB X E b mb) (hst:isStar a = false:=by rfl) (hst2:isStar b = false:=by rfl) (hg:Gl X x:=by rfl) (hn:x≠"__name__":=by decide) (hdb:(x == ("__debug__":Str)) = false:=by decide):
  DE X E (.Call (.Name x p) [a,b] [] pos) (m2 f ma mb):=(gJ hc hg hm hv (d6 ha (d6 hb dm hst2) hst) hn hdb (b5 hst) (cu (es:=[b]) (by simp [hst2]))).imp λσ H Q h=>EN hp h
end
end L2
end
section
namespace L2
open PySem PySem.Spec PyProof.Rows
section
variable {X:Cx} {E:XK} {K:W.Frag} {a:Expr} {ma:ME} {x:Str} {pos p:Pos}
end
end L2
end
section
namespace L2
open PySem PySem.Spec PyProof.Rows
theorem AI {α:Type} {M:Model} {A:Around} {c:Prop} [Decidable c] {x y:Sem α} {Q:α->Shared->Prop} {E:Value->Shared->Prop} {s:Shared} (h1:wpAny M A x Q E s) (h2:wpAny M A y Q E s):wpAny M A (if c then x else y) Q E s:=by
 split
 ·exact h1
 ·exact h2
theorem M5 (l:Addr) (t:Nat) (items:Array Value):
  Meets (Builtin.«enumerate.__new__» ⟨[.type "enumerate",.ref l],[("start",.int 1 t)]⟩) (λ_ R s=>s.heap.IsList l items/\R (.ok (.ret (.ref (s.heap.push (fJ "list_iterator" l)).objs.size)))
   { s with heap:=(s.heap.push (fJ "list_iterator" l)).push { cls:=.type "enumerate",data:=.fields #[.none,.bool false,.ref s.heap.objs.size,rawInt 1,.none,.none] } }):=
 .of_wp λprog w A R s h=>by
  obtain ⟨hp,g,d,tk,os⟩:=s; obtain ⟨c1,h⟩:=h
  have hsub:=sub_enumerate
  have J1:∀ {A:Around} {E:Value->Shared->Prop} {Q:Value->Shared->Prop},Q (.ref hp.objs.size) ⟨hp.push (fJ "list_iterator" l),g,d,tk,os⟩->wpAny (model prog w) A (pyIter (.ref l)) Q E ⟨hp,g,d,tk,os⟩:=λ{A E Q} q=>wpAny_pyIter_list c1 q
  wp_walk using J1
  refine wpAny_stack_any λst=>wpAny_pure ?_
  refine AI ?_ ?_
  ·wp_walk using J1
   exact ⟨_,rfl,h⟩
  ·wp_walk using J1
   exact ⟨_,rfl,h⟩
section
theorem Jq {T newId:String} {Bn:Builtin} {args:List Value} {kw:List (Str×Value)} {S:PySem.Spec} {Q:Value->Shared->Prop} (ft:TypeCalled T newId "object.__init__")
  (hct:checkTypeCall T ⟨args,kw⟩ = pure ()) (hcn:checkBuiltinCall newId ⟨.type T::args,kw⟩ = pure ()) (bt:∀ obj,argsOk "object.__init__" ⟨obj::args,kw⟩) (entryN:entryFor table newId = some Bn)
  (g:Meets (Bn ⟨.type T::args,kw⟩) S) (hi:∀ obj,Meets (Builtin.«object.__init__» ⟨obj::args,kw⟩) (λ_ R s=>s.TypeIs obj T/\R (.ok (.ret .none)) s)) (h:S A.in1 (wants (λobj s₁=>s₁.TypeIs obj T/\Q obj s₁) E) s):wpAny (model prog w) A (call (.type T) args kw) Q E s:=by
 obtain ⟨c,tl,hmro⟩:=ft.mro
 refine wpAny_call (codeAny_of_tree ?_)
 refine wpAny_pure ⟨Code.quiet_builtin _ (by decide +kernel),codeAny_builtin F.entry_type_call ?_⟩
 rw [Around.under_plain (weight_type_call_type T args kw) (units_type_call_type T args kw)]
 have h1:=ft.notType
 have h2:=ft.canCreate
 refine wpAny_ite_false (by simp [h1]) (wpAny_ite_false (by simp [h2]) ?_)
 refine wpAny_bind (wpAny_of_eq hct (wpAny_bind (wpAny_of_eq hmro (wpAny_ite_false rfl (wpAny_bind (wpAny_of_eq ft.made ?_))))))
 refine wpAny_bind (wpAny_pure (wpAny_bind (wpAny_holding (wpAny_call (codeAny_mono (codeAny_call_builtin ft.plain entryN (wpAny_of_eq hcn (g prog w A.in1 _ s h))) λr s₁ hr=>?_)))))
 cases r with
 | error e=>exact hr
 | ok fl=>
   cases fl with
   | ret v=>
     obtain ⟨ht,q⟩:=hr
     refine wpAny_bind (wpAny_isInstance ht ft.sub (wpAny_ite_false rfl (wpAny_bind (wpAny_holding ?_))))
     refine wpAny_bind (wpAny_specialOf ht ft.init.lookup ?_)
     refine wpAny_holding (wpAny_bind (wpAny_of_eq (ft.init.bind v) (wpAny_bind ?_)))
     refine wpAny_call (codeAny_mono (codeAny_call_builtin ft.init.plain F.entry_object_init (ft.init.check _ _ _ _ _ _ _ _ ht (bt v) (hi v prog w A.in1 (wants (λr s₂=>r = .none/\Q v s₂) E) s₁ ⟨ht,rfl,q⟩))) λr s₂ hr=>?_)
     cases r with
     | error e=>exact hr
     | ok fl=>
       cases fl with
       | ret r=>
         obtain ⟨e,q⟩:=hr
         subst e
         exact wpAny_pure (wpAny_ite_false rfl (wpAny_pure q))
       | _=>exact hr.elim
   | _=>exact hr.elim
theorem J6 (l:Addr) (t:Nat) (obj:Value):Meets (Builtin.«object.__init__» ⟨[obj,.ref l],[("start",.int 1 t)]⟩) (λ_ R s=>s.TypeIs obj "enumerate"/\R (.ok (.ret .none)) s):=
 .of_wp λprog w A R s h=>by
  obtain ⟨ht,h⟩:=h
  have f:=F.called_enumerate
  unfold Builtin.«object.__init__»
  dsimp only
  refine wpAny_ite_true (by rfl) (wpAny_bind (wpAny_typeOf ht ?_))
  refine wpAny_bind (wpAny_of_eq f.init.lookup ?_)
  refine wpAny_bind (wpAny_of_eq f.made ?_)
  exact wpAny_ite_false rfl (wpAny_ite_false rfl (wpAny_pure ⟨_,rfl,h⟩))
theorem JM (l:Addr) (t:Nat) (obj:Value):argsOk "object.__init__" ⟨[obj,.ref l],[("start",.int 1 t)]⟩:=by
 unfold argsOk
 rw [signature?_of rfl F.owner_object]
 rfl
theorem KA (l:Addr) (t:Nat):checkBuiltinCall "enumerate.__new__" ⟨[.type "enumerate",.ref l],[("start",.int 1 t)]⟩ = pure ():=by with_unfolding_all rfl
theorem Ka (hl:s.heap.IsList l items)
  (k:∀ h',IsEnum h' (s.heap.objs.size+1) s.heap.objs.size 1 .none->h'.IsListIter s.heap.objs.size l 0->h'.objs.size = s.heap.objs.size+2->(∀ b o,s.heap.get? b = some o->h'.get? b = some o)->Q (.ref (s.heap.objs.size+1)) { s with heap:=h' }):
  wpAny (model prog w) A (call (.type "enumerate") [.ref l] [("start",.int 1 t)]) Q E s:=by
 refine Jq F.called_enumerate rfl (KA l t) (JM l t) F.entry_enumerate_new (M5 l t items) (J6 l t) ⟨hl,?_⟩
 have y1:(s.heap.push (fJ "list_iterator" l)).objs.size = s.heap.objs.size+1:=Heap.size_push ..
 have g2:((s.heap.push (fJ "list_iterator" l)).push { cls:=.type "enumerate",data:=.fields #[.none,.bool false,.ref s.heap.objs.size,rawInt 1,.none,.none] }).get? (s.heap.push (fJ "list_iterator" l)).objs.size = some _:=Heap.get?_push_size _ rfl
 have g1:((s.heap.push (fJ "list_iterator" l)).push { cls:=.type "enumerate",data:=.fields #[.none,.bool false,.ref s.heap.objs.size,rawInt 1,.none,.none] }).get? s.heap.objs.size = some _:=Heap.get?_push_of_some _ (Heap.get?_push_size _ rfl)
 show _/\_
 rw [y1] at g2 ⊢
 exact ⟨⟨_,g2,rfl⟩,k _ g2 ⟨_,g1,rfl,rfl⟩ (by rw [Heap.size_push,y1]) λc o x=>Heap.get?_push_of_some _ (Heap.get?_push_of_some _ x)⟩
theorem Kd (hp:(args.any λx=>x.fst) = false) (hk:(kws.any λx=>x.fst.isNone) = false)
  (h:wpAny M A (evalArgs (.type T) true args kws) (λa s₁=>wpAny M A (call (.type T) a.pos a.kw) Q E s₁) E s):wpAny M A (callWith pos (.type T) [] args kws) Q E s:=by
 refine wpAny_bind (wpAny_holding (aW h λa s₁ h₁=>wpAny_bind (wpAny_standAt ?_)))
 simp only [hp,hk,Bool.or_self,List.nil_append]
 exact wpAny_bind (wpAny_pure (wpAny_bind (aW h₁ λr s₂ hr=>wpAny_bind (wpAny_holding (wpAny_point (wpAny_pure hr))))))
end
def KG (K:W.Frag) (a:Addr):It:=
 ⟨λi H=>∃ xs x,cR K H a xs/\xs[i]? = some x,
  λi H v H'=>∃ p x,H p = none/\v = .ref p/\H' = upd H p (.tup [.int (1+i),x])/\∀ xs,cR K H a xs->xs[i]? = some x,
  λi H=>∃ xs,cR K H a xs/\xs.length<=i⟩
theorem Em (hh:A.handled = none) (hne:l≠it):
  Draws prog w A it [it,l] (items.size+1) (λi v=>items[i - 1]? = some v) (λi h=>1<=i/\h.IsListIter it l (i - 1)/\h.IsList l items):=by
 have D:=Draws.list (prog:=prog) (w:=w) hh it l hne items
 refine ⟨λi h st=>D.live _ h st.2,λi h h' st k=>⟨st.1,D.frame _ h h' st.2 k⟩,λi s Q E hi st q=>?_,λs Q E st q=>?_⟩
 ·obtain ⟨h1,st⟩:=st
  refine D.item (i - 1) s Q E (by omega) st λx h' tk hp st' sb=>q x h' tk hp ⟨by omega,?_⟩ sb
  rw [show i+1 - 1 = i - 1+1 by omega]
  exact st'
 ·exact D.done s Q E st.2 q
theorem JL {P:Program} {w:World} {K:W.Frag} {es:List Expr} {kt:Nat} {pt:Pos} (e it l:Addr) (hei:e≠it) (hel:e≠l) (hli:l≠it):
  Turn P w K (.Tuple es kt pt) (KG K l) [e,it] e (λi h=>(∃ old,IsEnum h e it (1+i) old)/\h.IsListIter it l i) where
 mem:=by simp
 obj:=λi h st b hb=>by
  obtain ⟨⟨old,h1⟩,o,h2,_,d⟩:=st
  simp only [List.mem_cons,List.not_mem_nil,or_false] at hb
  rcases hb with rfl | rfl
  ·exact ⟨_,h1,λv z=>nomatch z⟩
  ·exact ⟨o,h2,λv z=>by rw [d] at z; cases z⟩
 keep:=λi h h' st k=>by
  obtain ⟨⟨old,h1⟩,o,h2,d⟩:=st
  exact ⟨⟨old,k e (by simp) _ h1⟩,o,k it (by simp) _ h2,d⟩
 item:=by
  intro X hP hw hK hc i pins s σ H E I hf st hg
  subst hP hw hK
  obtain ⟨xs,x,q1,gx⟩:=hg
  obtain ⟨its,r1,pl,_⟩:=I.list q1
  obtain ⟨ux,hux,rx⟩:=r1.get gx
  obtain ⟨⟨old,h1⟩,h2⟩:=st
  have hl:s.heap.IsList l its.toArray:=pl.isList
  have hi:i < its.length:=(List.getElem?_eq_some_iff.mp hux).1
  have h1':IsEnum s.heap e it ((i+1:Nat):Int) old:=by
   have:((i+1:Nat):Int) = 1+i:=by omega
   rw [this]; exact h1
  refine wpAny_pyNext_enum_itemD (Em (items:=its.toArray) (I.ok.hd hc) hli) h1' ⟨by omega,h2,hl⟩ (by simp; omega) hei (by simp [hei,hel]) λx' h' tk hp a1 a2 a3 a4 hk=>?_
  have ex:x' = ux:=by
   have hp':its[i]? = some x':=by simpa using hp
   rw [hux] at hp'; cases hp'; rfl
  subst ex
  refine ⟨_,rfl,wpAny_letOwnedTupleGo_enum a1 λh2' z2 e2=>?_⟩
  have I0:Inv X pins σ (upd H s.heap.objs.size (.tup [.int (1+i),x])) { s with heap:=s.heap.push { cls:=.type "tuple",data:=.seq #[.int ((i+1:Nat):Int) tk,x'] },toks:=tk+1 }:=
   I.laid (t':=tk+1) (λb u e=>Heap.get?_push_of_some _ e) (Nat.le_refl _) ⟨by show 2<=sizeLine; decide,[.int ((i+1:Nat):Int) tk,x'],.cons ⟨tk,by congr 1; omega⟩ (.cons rx .nil),⟨_,Heap.get?_push_size _ rfl,rfl,_,rfl⟩⟩
  have lts:∀ b∈[e,it],b < s.heap.objs.size:=λb hb=>by
   simp only [List.mem_cons,List.not_mem_nil,or_false] at hb
   rcases hb with rfl | rfl
   ·exact Heap.lt_size h1
   ·obtain ⟨o,e,_⟩:=h2; exact Heap.lt_size e
  have free:∀ b∈[e,it],upd H s.heap.objs.size (.tup [.int (1+i),x]) b = none:=λb hb=>by
   rw [aZ (Nat.ne_of_lt (lts b hb))]; exact (hf b hb).1
  have I1:Inv X pins σ (upd H s.heap.objs.size (.tup [.int (1+i),x])) { s with heap:=h2',toks:=tk+1 }:=by
   refine Inv.p8 (s:={ s with heap:=s.heap.push { cls:=.type "tuple",data:=.seq #[.int ((i+1:Nat):Int) tk,x'] },toks:=tk+1 }) (h':=h2') (t':=tk+1) (fp:=[e,it]) I0 (λb o hb z=>?_) (λb hb=>⟨free b hb,(hf b hb).2⟩)
   have nz:b≠e:=λq=>hb (by simp [q])
   have ni:b≠it:=λq=>hb (by simp [q])
   rcases Heap.get?_push_cases z with ⟨rfl,rfl⟩ | z
   ·rw [e2.2 _ nz]; exact a3
   ·rw [e2.2 _ nz]; exact hk b o nz ni z
  refine ⟨.ref s.heap.objs.size,_,I1,rfl,⟨_,x,I.fresh,rfl,rfl,λxs' h=>?_⟩,⟨⟨x',?_⟩,?_⟩,free⟩
  ·rw [I.rH h q1]; exact gx
  ·have:(1+ ((i+1:Nat):Int)) = ((i+1:Nat):Int)+1:=by omega
   show IsEnum h2' e it (1+ ((i+1:Nat):Int)) x'
   rw [this]; exact z2
  ·obtain ⟨_,⟨o,w1,w2⟩,_⟩:=a2
   exact ⟨o,by rw [e2.2 _ (Ne.symm hei)]; exact w1,w2⟩
 done:=by
  intro X hP hw hK hc i pins s σ H E I hf st hg
  subst hP hw hK
  obtain ⟨xs,q1,hl⟩:=hg
  obtain ⟨its,r1,pl,_⟩:=I.list q1
  have n1:=r1.length
  obtain ⟨⟨old,h1⟩,h2⟩:=st
  have hx:its.toArray[i]? = none:=by simp; omega
  have D:Draws X.prog X.w X.A.in1 it [it,l] 0 (λ_ _=>False) (λ_ h=>h.IsListIter it l i/\h.IsList l its.toArray):=
   ⟨λ_ h st=>⟨_,st.1.choose_spec.1⟩,λ_ h h' st k=>⟨st.1.at (k it (by simp)),st.2.at (k l (by simp))⟩,λi s Q E hi=>absurd hi (Nat.not_lt_zero _),λs Q E st q=>wpAny_nextOf_list_end (I.ok.hd hc) st.1 st.2 hx q⟩
  exact wpAny_pyNext_enum_endD D h1 ⟨h2,pl.isList⟩ λh' hk=>⟨rfl,I.p8 (fp:=[e,it]) (t':=s.toks) (λb o hb z=>hk b o (λq=>hb (by simp [q])) z) hf⟩
 self:=λ_ _ _ _ _ st h=>by obtain ⟨⟨old,h1⟩,_⟩:=st; exact wpAny_pyIter_enum h1 h
section
def PF (K:W.Frag) (ta:TA):TI:=λσ H R=>ta σ H λvs H1=>match vs with
 | [.ref l]=>∃ xs,cR K H1 l xs/\R (KG K l) H1
 | _=>False
theorem OF (hm:X.mg "enumerate" = none) (ha:PA X [a] t) (hs:isStar a = false) (hg:Gl X "enumerate"):PI X (.Tuple es kt pt) (.Call (.Name "enumerate" p) [a] [⟨some "start",.Constant (.int 1) j p1,p2⟩] pos) (PF X.K t):=by
 intro pins s σ H R I h
 have e1:starEach [a] X.env = [(false,eval a X.env)]:=by rw [b5 hs]; rfl
 refine wpAny_Call_Name_kw (kR I hg hm PyProof.Rows.boot_enumerate (Kd (by rw [e1]; rfl) (by rfl) (evalArgs_kw2 (by rfl) (aW (ha pos pins s σ H _ I h) λus s1 ⟨vs,H1,I1,r1,q1⟩=>?_) (by rw [e1]; rfl))))
 refine kws_cons (aW (xV pins s1 σ H1 (λv H'=>v = .int 1/\H' = H1) I1 ⟨rfl,rfl⟩) λu s2 ⟨v,H2,I2,r2,e2,e3⟩=>?_)
 subst e2 e3
 obtain ⟨tk,rfl⟩:=r2
 refine PyProof.Rows.kws_nil ?_
 split at q1
 ·rename_i l
  obtain ⟨xs,g1,q⟩:=q1
  obtain ⟨u,rfl,ru⟩:=vals1 r1
  cases ru
  obtain ⟨its,v1,pl,_⟩:=I2.list g1
  have lt1:l < s2.heap.objs.size:=by obtain ⟨_,e,_⟩:=pl.isList; exact Heap.lt_size e
  refine Ka pl.isList λh' he hi hsz hk=>?_
  refine wpAny_pyIter_enum he ?_
  refine ⟨_,_,_,_,H2,rfl,I2.kept (t':=s2.toks) hk,JL (s2.heap.objs.size+1) s2.heap.objs.size l (Nat.succ_ne_self _) (Nat.ne_of_gt (Nat.lt_succ_of_lt lt1)) (Nat.ne_of_lt lt1),⟨⟨_,he⟩,hi⟩,λb hb=>?_,q⟩
  have up:s2.heap.objs.size<=b:=by
   simp only [List.mem_cons,List.not_mem_nil,or_false] at hb
   rcases hb with rfl | rfl <;> omega
  exact I2.rj up (I2.bt.fresh up)
 ·exact q1.elim
def vV (l:List Dv):List Dv:=l.mapIdx λi d=>.tup [.int (1+i),d]
def Dy (a:ME):MA:=λρ=>(a ρ).bind λx=>match x with
 | .lst l=>.ok (vV l)
 | _=>.bad
theorem IQ (h:l.length<=sizeLine):(vV l).length<=sizeLine:=by
 unfold vV
 rw [List.length_mapIdx]
 exact h
theorem NZ {K:W.Frag} {Z:Addr->Prop} {q:Bool} {H0:Hp} {l1:Addr} {xs:List V} {ds:List Dv} (h1:∀ H,Ext Z H0 H->(q = true->aK H0 H)->cR K H l1 xs)
  (r1:a7 K Z H0 ds xs):JW K Z q (KG K l1) H0 (vV ds):=by
 intro Zi i H hz hx hq
 refine ⟨λd e=>?_,λhl=>?_⟩
 ·unfold vV at e
  rw [List.getElem?_mapIdx] at e
  cases z1:ds[i]? with
  | none=>rw [z1] at e; cases e
  | some d1=>
    rw [z1] at e
    cases e
    obtain ⟨x,gx,rx⟩:=r1.get z1
    refine ⟨⟨xs,x,h1 H hx hq,gx⟩,λv H' ⟨p,x',hp,hv,hH,u1⟩=>?_⟩
    subst hv hH
    have ex:=u1 xs (h1 H hx hq)
    rw [gx] at ex
    cases ex
    have sm:aK H (upd H p (.tup [.int (1+i),x])):=(aK.refl _).upd hp
    refine ⟨sm,p,[.int (1+i),x],rfl,dz.of bj,by show 2<=sizeLine; decide,?_⟩
    have on:∀ {d v},Rp K Z H0 d v->Rp K Zi (upd H p (.tup [.int (1+i),x])) d v:=λ{d v} h3=>by
     have h4:Rp K (λa=>Z a\/Zi a) H0 d v:=h3.weak λa z=>z.elim .inl (hz a)
     exact ((h4.mono hx λa z=>.inl z).weak λa z=>.inl (.inr z)).same sm
    exact ⟨.int (1+i),[x],rfl,rfl,x,[],rfl,on rx,rfl⟩
 ·refine ⟨xs,h1 H hx hq,?_⟩
  unfold vV at hl
  rw [List.length_mapIdx] at hl
  rw [r1.len]
  exact hl
theorem L1 (hm:X.mg "enumerate" = none) (ha:DB X E a ma) (hs:isStar a = false:=by rfl) (hg:Gl X "enumerate":=by rfl):DI X E true (.Tuple es kt pt) (.Call (.Name "enumerate" p) [a] [⟨some "start",.Constant (.int 1) j p1,p2⟩] pos) (Dy ma):=
 (OF hm (d6 ha dm hs) hs hg).imp λσ H R ⟨B,P,ρ,r,o⟩=>⟨B,P,ρ,r,o.bind λd H1 _ s1 o1 v hv=>by
  cases d with
  | lst l=>
    obtain ⟨a1,xs,rfl,h1,h2,h3⟩:=hv
    exact ⟨xs,h1.sq,o1.ok _ (NZ (λH' _ e=>((e rfl).rd h1).sq) h3) (IQ h2)⟩
  | _=>exact o1.elim⟩
end
end L2
end
section
namespace L2
open PySem PySem.Spec PyProof.Rows
section
theorem IT (led:Bool) (h:Int) (x:Value):(layNew (.fresh 0 0 led) #[] h x).1 = #[(h,x)]/\(layNew (.fresh 0 0 led) #[] h x).2.1.led = led/\(layNew (.fresh 0 0 led) #[] h x).2.1.tooFull = false:=by
 unfold layNew
 cases (SetTable.fresh 0 0 led).freeSlot h with
 | none=>exact ⟨rfl,rfl,rfl⟩
 | some q=>
   obtain ⟨j,d⟩:=q
   refine ⟨rfl,?_,?_⟩
   ·show (SetTable.orStandIn _ _).led = led
    unfold SetTable.orStandIn
    split <;> rfl
   ·show (SetTable.orStandIn _ _).tooFull = false
    unfold SetTable.orStandIn
    split
    ·rfl
    ·rfl
theorem add_one (ho:s.heap.get? a = some (dS led))
  (k:∀ h' ep tb,h'.get? a = some { cls:=.type "set",data:=.set #[((strKind prog w).hash y,.str y t)] ep tb }->tb.fits 1 = true->tb.led = led->Heap.SameBut a s.heap h'->Q true { s with heap:=h' }):
  wpAny (model prog w) A (setAddHashed a (.str y t) ((strKind prog w).hash y)) Q E s:=by
 unfold setAddHashed
 refine wpAny_holding ?_
 rw [setAddHashedIn.eq_def]
 refine wpAny_bind (wpAny_setState_of ho rfl rfl ?_)
 dsimp only
 rw [if_pos (byScan_of (knd:=strKind prog w) rfl (by decide) (λe he=>absurd he (List.not_mem_nil)))]
 unfold setAddByScan
 refine wpAny_bind (wpAny_bind (wpAny_rule (wpAny_bind ?_)))
 refine wpAny_setScan_of (knd:=strKind prog w) (k:=y) (strKind_is _ _ _ _) ho rfl rfl (λe he=>nomatch he) ?_
 dsimp only [List.findIdx?]
 obtain ⟨l1,l2,l3⟩:=IT led ((strKind prog w).hash y) (.str y t)
 have l4:=layNew_fits (.fresh 0 0 led) #[] ((strKind prog w).hash y) (.str y t)
 generalize layNew (.fresh 0 0 led) #[] ((strKind prog w).hash y) (.str y t) = L at l1 l2 l3 l4 ⊢
 have fin:∀ tb:SetTable,tb.fits 1 = true->tb.led = led->tb.tooFull = false->∀ g:Bool->Sem Unit,wpAny (model prog w) A (do
   storeSet a L.1 tb
   if (!L.2.2.1 && tb.tooFull) = true then do
       g (relayAll tb L.1 (SetTable.grown L.1.size)).2.2
       storeSet a (relayAll tb L.1 (SetTable.grown L.1.size)).1 (relayAll tb L.1 (SetTable.grown L.1.size)).2.1
       pure (some true)
    else pure (some true)) (λr s'=>wpAny (model prog w) A (match r with | some added=>pure added | none=>setAddHashedIn a (.str y t) ((strKind prog w).hash y) 99999) Q E s') E s:=by
  intro tb f1 f2 f3 g
  rw [l1,f3]
  refine wpAny_bind (wpAny_storeSet_of ho rfl ?_ (by show (1:Nat)<=sizeLine; decide))
  rw [if_neg (by simp)]
  exact wpAny_pure (wpAny_pure (k _ _ _ (Heap.get?_update_self _ ho rfl) f1 f2 (Heap.SameBut.update ..)))
 rw [l1] at l4
 have gw:∀ (b:Bool) (Q':Unit->Shared->Prop),Q' () s->wpAny (model prog w) A (match b with | true=>rule "set.scan.the-table-gave-way" | false=>pure ()) Q' E s:=λb Q' q=>by
  cases b
  ·exact wpAny_pure q
  ·exact wpAny_rule q
 refine wpAny_bind (gw _ _ ?_)
 refine AI (wpAny_bind (wpAny_of_eq (hashByValue_scannable 8 rfl) ?_)) ?_
 ·exact fin _ (by split <;> exact l4) (by split <;> exact l2) (by split <;> exact l3) _
 ·exact wpAny_bind (wpAny_pure (fin _ l4 l2 l3 _))
abbrev fi (w:World):Bool:=w.params.followText "set-order"
theorem J4 (a:Value) (h:Q₁ (.ref s.heap.objs.size) { s with heap:=s.heap.push (dS (!fi w)) }):
  codeAny (model prog w) A (.call (.builtin "set.__new__") ⟨[.type "set",a],[]⟩) (wants Q₁ E) s:=by
 refine codeAny_of_tree (wpAny_bind (wpAny_of_eq (F.newCall_set_1 a) (wpAny_pure ⟨plainId_quiet F.plain_set_new _,codeAny_builtin F.entry_set_new ?_⟩)))
 rw [Around.under_plainId F.plain_set_new _]
 have hsub:=sub_set_self
 unfold Builtin.«set.__new__»
 obtain ⟨hp,g,d,tk,os⟩:=s
 refine wpAny_bind (wpAny_bind (wpAny_pure (wpAny_ite_false rfl (wpAny_bind (wpAny_of_eq hsub (wpAny_ite_false rfl (wpAny_pure ?_)))))))
 refine wpAny_bind ?_
 unfold newSet setsByText
 refine wpAny_bind (wpAny_bind (wpAny_askSetting (wpAny_pure ?_)))
 exact wpAny_newObj_type (wpAny_pure h) (by size_fits)
def pM (w:World) (prog:Program) (y:Str) (t ep:Nat) (tb:SetTable):Obj:={ cls:=.type "set",data:=.set #[((strKind prog w).hash y,.str y t)] ep tb }
def One (prog:Program) (w:World) (h:Heap) (a:Addr) (y:Str):Prop:=∃ t ep tb,h.get? a = some (pM w prog y t ep tb)/\tb.fits 1 = true/\tb.led = !fi w
theorem GK (hh:A.in1.handled = none) (hne:l≠I) (hSI:S≠I) (hSl:S≠l) (hi:s.heap.get? I = some (fJ "list_iterator" l)) (hl:s.heap.IsList l #[.str y t]) (hS:s.heap.get? S = some (dS (!fi w)))
  (hR:∀ h' tk,One prog w h' S y->(∀ b o,b≠S->b≠I->s.heap.get? b = some o->h'.get? b = some o)->R (.ok (.ret .none)) { s with heap:=h',toks:=tk }):
  codeAny (model prog w) A (.builtin "set.update.loop" ⟨[.ref S,.ref I],[]⟩) R s:=by
 have W:=Walks.list (prog:=prog) (w:=w) (A:=A.in1) hh I l hne #[.str y t]
 refine codeAny_builtin PyProof.Rows.F.entry_set_update_loop ?_
 rw [Around.under_plainId PyProof.Rows.F.plain_set_update_loop _]
 show wpAny _ A.in1 (pyNext (.ref I) >>= _) _ _ s
 refine wpAny_bind (W.item 0 s _ _ (by simp) ⟨⟨_,hi,rfl,rfl⟩,hl⟩ λv h1 tk hP st1 hk=>?_)
 have ev:v = .str y t:=by simpa using hP.symm
 subst ev
 show wpAny _ A.in1 (holding [Value.str y t] (setAdd S (.str y t)) >>= _) _ _ _
 refine wpAny_bind (wpAny_holding ?_)
 unfold setAdd
 refine wpAny_holding (wpAny_bind ((PySem.strKind prog w).pyHash (k:=y) (strKind_is _ _ _ _) ?_))
 have hS1:h1.get? S = some (dS (!fi w)):=hk S _ (by simpa using hSI) hS
 refine add_one (s:=⟨h1,_,_,_,_⟩) hS1 λh2 ep tb g1 g2 g3 sb=>?_
 refine wpAny_pure ⟨plainId_quiet PyProof.Rows.F.plain_set_update_loop _,?_⟩
 refine codeAny_builtin PyProof.Rows.F.entry_set_update_loop ?_
 rw [Around.under_plainId PyProof.Rows.F.plain_set_update_loop _]
 show wpAny _ A.in1 (pyNext (.ref I) >>= _) _ _ _
 have st2:h2.IsListIter I l 1/\h2.IsList l #[.str y t]:=W.frame 1 h1 h2 st1 λb hb o e=>by
  have nS:b≠S:=λz=>by
   simp only [List.mem_cons,List.not_mem_nil,or_false] at hb
   rcases hb with rfl | rfl
   ·exact hSI z.symm
   ·exact hSl z.symm
  rw [sb.2 b nS]; exact e
 refine wpAny_bind (W.done ⟨h2,_,_,_,_⟩ _ _ st2 λh3 tk3 hk3=>?_)
 show wpAny _ A.in1 (ret Value.none) _ _ _
 refine wpAny_pure (hR h3 tk3 ⟨t,ep,tb,hk3 S _ (by simpa using hSI) g1,g2,g3⟩ λb o n1 n2 e=>?_)
 refine hk3 b o (by simpa using n2) ?_
 rw [sb.2 b n1]
 exact hk b o (by simpa using n2) e
theorem call_one (hh:A.handled = none) (hl:s.heap.IsList l #[.str y t])
  (h:∀ (h':Heap) (tk:Nat),One prog w h' s.heap.objs.size y->(∀ c o,s.heap.get? c = some o->h'.get? c = some o)->Q (.ref s.heap.objs.size) { s with heap:=h',toks:=tk }):
  wpAny (model prog w) A (call (.type "set") [.ref l]) Q E s:=by
 obtain ⟨c,tl,hmro⟩:=PySem.F.called_set.mro
 have hmade:=PySem.F.called_set.made
 have hsub:=PySem.F.called_set.sub
 refine wpAny_call (codeAny_of_tree ?_); show wpAny _ _ (callAny (.type "set") _) _ _ _
 refine wpAny_pure ⟨Code.quiet_builtin _ (by decide +kernel),codeAny_builtin PySem.F.entry_type_call ?_⟩; rw [Around.under_plain (weight_type_call_type "set" [.ref l] []) rfl]
 have h1:=PySem.F.called_set.notType
 have h2:=PySem.F.called_set.canCreate
 have hct:=PySem.F.typeCall_set_1 (.ref l)
 repeat (any_goals (first | assumption | wp_step))
 refine codeAny_mono (J4 (.ref l) (E:=E) (Q₁:=λobj s₁=>obj = .ref s.heap.objs.size/\s₁ = { s with heap:=s.heap.push (dS (!fi w)) }) ⟨rfl,rfl⟩) λr s₁ hr=>?_
 cases r with
 | error e=>exact hr
 | ok fl=>
   cases fl with
   | ret obj=>
     obtain ⟨rfl,rfl⟩:=hr
     have hS:(s.heap.push (dS (!fi w))).get? s.heap.objs.size = some (dS (!fi w)):=Heap.get?_push_size _ rfl
     have hT:Shared.TypeIs { s with heap:=s.heap.push (dS (!fi w)) } (.ref s.heap.objs.size) "set":=⟨_,hS,rfl⟩
     have hli:=PySem.F.called_set.init.lookup
     have hbi:=PySem.F.called_set.init.bind (.ref s.heap.objs.size)
     repeat (any_goals (first | assumption | wp_step))
     refine codeAny_mono (codeAny_call_builtin (R:=wants (λr s₂=>r = .none/\∃ h' tk,s₂ = { s with heap:=h',toks:=tk }/\One prog w h' s.heap.objs.size y/\(∀ c o,s.heap.get? c = some o->h'.get? c = some o)) E) PySem.F.called_set.init.plain PySem.F.entry_set_init (check_set_init_1 hT ?_)) λr₂ s₂ hr₂=>?_
     ·have lS:l < s.heap.objs.size:=by obtain ⟨o,e,_⟩:=hl; exact Heap.lt_size e
      have hh3:A.in1.in1.in1.handled = none:=by simp [hh]
      have szS:(s.heap.push (dS (!fi w))).objs.size = s.heap.objs.size+1:=Heap.size_push ..
      obtain ⟨ol,hol,hcl,nl,hdl⟩:=hl
      obtain ⟨ocls,odict,odata,oslots⟩:=ol
      simp only at hcl hdl
      subst hcl; subst hdl
      have hol':(s.heap.push (dS (!fi w))).get? l = some { cls:=.type "list",dict:=odict,data:=.seq #[.str y t] nl,slots:=oslots }:=Heap.get?_push_of_some _ hol
      have hsls:=PySem.F.sub_list_set
      have hslf:=PySem.F.sub_list_frozenset
      have hne:(Value.type "list" == Value.type "dict") = false:=by decide
      unfold Builtin.«set.__init__» noKeywords Builtin.Frozenset.updateFrom
      generalize hPI:pyIter = PI
      wp_walk
      subst hPI
      refine wpAny_pyIter_list (show (s.heap.push (dS (!fi w))).IsList l #[.str y t] from ⟨_,hol',rfl,nl,rfl⟩) ?_; refine wpAny_bind (wpAny_runValue ?_)
      refine codeAny_mono (R:=λr s'=>r = .ok (.ret .none)/\∃ h' tk,s' = { s with heap:=h',toks:=tk }/\One prog w h' s.heap.objs.size y/\(∀ c o,s.heap.get? c = some o->h'.get? c = some o)) (GK (y:=y) (t:=t) (l:=l) hh3 (by rw [szS]; exact Nat.ne_of_lt (Nat.lt_succ_of_lt lS)) (by rw [szS]; exact Nat.ne_of_lt (Nat.lt_succ_self _)) (Nat.ne_of_gt lS) (Heap.get?_push_size _ rfl) ⟨_,Heap.get?_push_of_some _ hol',rfl,nl,rfl⟩ (Heap.get?_push_of_some _ hS) λh' tk o1 kk=>⟨rfl,h',tk,rfl,o1,λc o e=>kk c o (Nat.ne_of_lt (Heap.lt_size e)) (by rw [szS]; exact Nat.ne_of_lt (Nat.lt_succ_of_lt (Heap.lt_size e))) (Heap.get?_push_of_some _ (Heap.get?_push_of_some _ e))⟩) λr s' hq=>?_
      obtain ⟨rfl,h',tk',rfl,q1,q2⟩:=hq
      show wpAny _ _ _ _ _ _
      refine wpAny_pure ?_
      show wpAny _ _ (ret Value.none) _ _ _
      exact wpAny_pure ⟨rfl,h',tk',rfl,q1,q2⟩
     ·cases r₂ with
      | error e=>exact hr₂
      | ok fl=>
        cases fl with
        | ret r=>
          obtain ⟨rfl,h',tk',rfl,q1,q2⟩:=hr₂
          repeat (any_goals (first | assumption | wp_step))
          exact h _ _ q1 q2
        | _=>exact hr₂.elim
   | _=>exact hr.elim
end
end L2
end
section
namespace L2
open PySem PySem.Spec PyProof.Rows
theorem mP:Slot "set_iterator" (Str.ofString "__next__") "set_iterator.__next__":=by
 refine Slot.of (owner:="set_iterator") (n:="__next__") ?_ ?_ ?_ ?_ (.inl ?_) ?_ ?_
 ·rw [typeLookup_type,builtinLookup_eq_fast]; kernel_rfl
 ·decide +kernel
 ·decide +kernel
 ·decide +kernel
 ·decide +kernel
 ·rw [isSubtype_type]; kernel_rfl
 ·decide +kernel
theorem D5:entryFor table "set_iterator.__next__" = some Builtin.«set_iterator.__next__»:=entryFor_of_tree (by kernel_rfl)
theorem Nc:entryFor table "set.__iter__" = some Builtin.«frozenset.__iter__»:=entryFor_alias (id':="frozenset.__iter__") (by kernel_rfl) (by decide +kernel) (by decide +kernel) (by kernel_rfl)
theorem EV (a:Value):argsOk "set_iterator.__next__" ⟨[a],[]⟩:=by
 unfold argsOk
 with_unfolding_all rfl
section
theorem FU (hT:s.TypeIs (.ref r) "set") (h:Q false s):wpAny (model prog w) A (Builtin.List.listLengthHint (.ref r)) Q E s:=by
 unfold Builtin.List.listLengthHint
 refine wpAny_bind (wpAny_specialOf hT F.slot_set_len.lookup ?_)
 dsimp only
 rw [show splitId "set.__len__" = some ("set","__len__") by decide +kernel]
 dsimp only
 refine wpAny_bind (wpAny_isInstance hT F.called_set.sub (wpAny_ite_false rfl ?_))
 refine wpAny_ite_true (by decide +kernel) (wpAny_bind (wpAny_typeOf hT (wpAny_pure h)))
theorem F0 (ho:s.heap.get? r = some (pM w prog y t ep tb)) (hf:tb.fits 1 = true)
  (h:Q (.ref s.heap.objs.size) { s with heap:=s.heap.push { cls:=.type "set_iterator",data:=.fields #[rawInt 0,rawInt 0,.ref r,rawInt 1,rawInt ep] } }):wpAny (model prog w) A (pyIter (.ref r)) Q E s:=by
 have hT:s.TypeIs (.ref r) "set":=⟨_,ho,rfl⟩
 refine wpAny_pyIter_slot hT F.slot_set_iter (wpAny_call_entry F.slot_set_iter hT Nc ?_ (F.args_set_iter_1 _))
 unfold Builtin.«frozenset.__iter__»
 refine wpAny_bind (wpAny_pure ?_)
 refine wpAny_bind (wpAny_bind (wpAny_bind (wpAny_setState_of ho rfl hf (wpAny_pure (wpAny_pure ?_)))))
 refine wpAny_bind (wpAny_bind (wpAny_setState_of ho rfl hf ?_))
 refine wpAny_bind (wpAny_bind (wpAny_askSetting (wpAny_pure (wpAny_pure ?_))))
 refine wpAny_ite_false (show decide ((!fi w && (!tb.plain && decide ((1:Nat) > 1))) = true) = false by simp) (wpAny_bind (wpAny_pure ?_))
 refine wpAny_bind (wpAny_bind (wpAny_setState_of ho rfl hf (wpAny_pure ?_)))
 refine wpAny_bind (wpAny_newObj_type (wpAny_pure ⟨_,rfl,"set_iterator",_,⟨_,Heap.get?_push_size _ rfl,rfl⟩,mP.lookup,h⟩) (by size_fits))
abbrev xG (r:Addr) (f i ep:Nat):Obj:={ cls:=.type "set_iterator",data:=.fields #[rawInt f,rawInt i,.ref r,rawInt 1,rawInt ep] }
theorem F9 {α:Type} (next:Nat->Nat) (e:α):pickOrder next #[e] = #[e]:=by
 unfold pickOrder
 simp [pickOrder.go,Nat.mod_one]
theorem vb:SetTable.below #[j] k = if j < k then 1 else 0:=by
 unfold SetTable.below
 simp [SetTable.below.go]
theorem Dl {tb:SetTable} (hf:tb.fits 1 = true):∃ j,tb.place = #[j]:=by
 unfold SetTable.fits at hf
 have h1:tb.place.size = 1:=by simpa using (Bool.and_eq_true _ _ |>.mp hf).1
 obtain ⟨j,hj⟩:=Array.size_eq_one_iff.mp h1
 exact ⟨j,hj⟩
section
theorem xS (ho:s.heap.get? r = some (pM w prog y t ep tb)) (hf:tb.fits 1 = true) (hb:fi w = true) (h:Q #[((strKind prog w).hash y,.str y t)] s):wpAny (model prog w) A (setWalk r) Q E s:=by
 unfold setWalk
 refine wpAny_bind (wpAny_setState_of ho rfl hf ?_)
 refine wpAny_bind (wpAny_bind (wpAny_askSetting (wpAny_pure ?_)))
 refine wpAny_ite_true (show decide ((fi w) = true) = true by rw [hb]; rfl) ?_
 refine wpAny_bind (wpAny_askSetting (wpAny_pure ?_))
 rw [F9]
 exact h
theorem EB {Q:Option (Value×Nat)->Shared->Prop} (ho:s.heap.get? r = some (pM w prog y t ep tb)) (hf:tb.fits 1 = true) (hl:tb.led = !fi w)
  (h:∀ f:Nat,(fi w = true\/∃ j,tb.place = #[j]/\f = j+1)->Q (some (.str y t,f)) s):wpAny (model prog w) A (setNext r 0 0 ep) Q E s:=by
 unfold setNext
 refine wpAny_bind (wpAny_setState_of ho rfl hf ?_)
 refine wpAny_bind (wpAny_bind (wpAny_askSetting (wpAny_pure ?_)))
 cases hb:fi w with
 | true=>
   refine wpAny_ite_true (show decide ((fi w) = true) = true by rw [hb]; rfl) ?_
   refine wpAny_ite_false (by simp) (wpAny_bind (xS ho hf hb (wpAny_pure ?_)))
   exact h 0 (.inl hb)
 | false=>
   refine wpAny_ite_false (show decide ((fi w) = true) = false by rw [hb]; rfl) ?_
   refine wpAny_ite_false (show decide ((!tb.plain && decide ((1:Nat) > 1)) = true) = false by simp) ?_
   rw [hb] at hl
   refine wpAny_bind ?_
   refine wpAny_ite_false (show decide ((!tb.led && !false) = true) = false by rw [hl]; rfl) (wpAny_pure ?_)
   obtain ⟨j,hj⟩:=Dl hf
   rw [hj,vb,if_neg (Nat.not_lt_zero _)]
   exact wpAny_pure (h (j+1) (.inr ⟨j,hj,rfl⟩))
theorem Dr (ho:s.heap.get? r = some (pM w prog y t ep tb)) (hf:tb.fits 1 = true) (hl:tb.led = !fi w) (hc:fi w = true\/∃ j,tb.place = #[j]/\f = j+1)
  (h:Q none s):wpAny (model prog w) A (setNext r f 1 ep) Q E s:=by
 unfold setNext
 refine wpAny_bind (wpAny_setState_of ho rfl hf ?_)
 refine wpAny_bind (wpAny_bind (wpAny_askSetting (wpAny_pure ?_)))
 cases hb:fi w with
 | true=>
   refine wpAny_ite_true (show decide ((fi w) = true) = true by rw [hb]; rfl) ?_
   exact wpAny_ite_false (by simp) (wpAny_bind (xS ho hf hb (wpAny_pure h)))
 | false=>
   refine wpAny_ite_false (show decide ((fi w) = true) = false by rw [hb]; rfl) ?_
   refine wpAny_ite_false (show decide ((!tb.plain && decide ((1:Nat) > 1)) = true) = false by simp) ?_
   rcases hc with hc | ⟨j,hj,rfl⟩
   ·rw [hb] at hc; cases hc
   rw [hb] at hl
   refine wpAny_bind ?_
   refine wpAny_ite_false (show decide ((!tb.led && !false) = true) = false by rw [hl]; rfl) (wpAny_pure ?_)
   rw [hj,vb,if_pos (Nat.lt_succ_self _)]
   exact wpAny_pure h
theorem Fj (ho:s.heap.get? r = some (pM w prog y t ep tb)) (hf:tb.fits 1 = true) (hl:tb.led = !fi w) (hi:s.heap.get? I = some (xG r 0 0 ep))
  (h:∀ (f:Nat) (h':Heap),(fi w = true\/∃ j,tb.place = #[j]/\f = j+1)->h'.get? I = some (xG r f 1 ep)->(∀ b o,b≠I->s.heap.get? b = some o->h'.get? b = some o)->Q (some (.str y t)) { s with heap:=h' }):
  wpAny (model prog w) A (pyNext (.ref I)) Q E s:=by
 have hT:s.TypeIs (.ref I) "set_iterator":=⟨_,hi,rfl⟩
 unfold pyNext
 refine wpAny_bind (wpAny_attempt (wpAny_callSpecial?_slot hT mP (wpAny_call_entry mP hT D5 ?_ (EV _))))
 unfold Builtin.«set_iterator.__next__»
 refine wpAny_bind (wpAny_pure ?_)
 refine wpAny_bind (wpAny_fieldsOf hi rfl ?_)
 show wpAny _ _ (setEntries r >>= _) _ _ _
 refine wpAny_bind (wpAny_bind (wpAny_setState_of ho rfl hf (wpAny_pure ?_)))
 refine wpAny_ite_false (by rfl) ?_
 show wpAny _ _ (setNext r 0 0 ep >>= _) _ _ _
 refine wpAny_bind (EB ho hf hl λf hc=>?_)
 refine wpAny_bind (wpAny_setField hi rfl (by simp) ?_)
 have g1:(s.heap.update I (Obj.mapFields λx=>x.setIfInBounds 0 (rawInt f))).get? I = some (xG r f 0 ep):=Heap.get?_update_self _ hi rfl
 refine wpAny_bind (wpAny_setField (s:=⟨_,_,_,_,_⟩) g1 rfl (by simp) ?_)
 have g2:((s.heap.update I (Obj.mapFields λx=>x.setIfInBounds 0 (rawInt f))).update I (Obj.mapFields λx=>x.setIfInBounds 1 (rawInt 1))).get? I = some (xG r f 1 ep):=Heap.get?_update_self _ g1 rfl
 exact wpAny_pure ⟨_,rfl,wpAny_pure (h f _ hc g2 λb o n e=>by rw [(Heap.SameBut.update ..).2 b n,(Heap.SameBut.update ..).2 b n]; exact e)⟩
theorem IU (hh:A.handled = none) (ho:s.heap.get? r = some (pM w prog y t ep tb)) (hf:tb.fits 1 = true) (hl:tb.led = !fi w) (hc:fi w = true\/∃ j,tb.place = #[j]/\f = j+1) (hi:s.heap.get? I = some (xG r f 1 ep))
  (h:∀ (h':Heap),(∀ b o,b≠I->s.heap.get? b = some o->h'.get? b = some o)->Q none { s with heap:=h' }):
  wpAny (model prog w) A (pyNext (.ref I)) Q E s:=by
 have hT:s.TypeIs (.ref I) "set_iterator":=⟨_,hi,rfl⟩
 unfold pyNext
 refine wpAny_bind (wpAny_attempt (wpAny_callSpecial?_slot hT mP (wpAny_call_entry mP hT D5 ?_ (EV _))))
 unfold Builtin.«set_iterator.__next__»
 refine wpAny_bind (wpAny_pure ?_)
 refine wpAny_bind (wpAny_fieldsOf hi rfl ?_)
 show wpAny _ _ (setEntries r >>= _) _ _ _
 refine wpAny_bind (wpAny_bind (wpAny_setState_of ho rfl hf (wpAny_pure ?_)))
 refine wpAny_ite_false (by rfl) ?_
 show wpAny _ _ (setNext r f 1 ep >>= _) _ _ _
 refine wpAny_bind (Dr ho hf hl hc ?_)
 refine wpAny_bind (wpAny_setField hi rfl (by simp) ?_)
 show wpAny _ _ (newExc (.type "StopIteration") [] >>= _) _ _ _; refine wpAny_bind ?_
 simp only [newExc,newTuple]
 refine wpAny_bind (wpAny_newObj_type ?_ (by size_fits)); refine wpAny_bind (m:=firstArgMember _ _) (wpAny_of_eq (a:=Value.none) (by first | rfl | (simp only [firstArgMember]; rfl)) ?_)
 refine wpAny_newObj_type ?_ (by size_fits); simp only [raiseNew]; refine wpAny_bind (wpAny_handled ?_)
 first | rw [show A.in1.handled = none from hh] | rw [hh]
 refine wpAny_bind (wpAny_pure (wpAny_throw ?_))
 refine wpAny_bind (wpAny_isInstance (T:="StopIteration") (b:=true) ⟨_,Heap.get?_push_size _ rfl,rfl⟩ (by rw [isSubtype_type]; kernel_rfl) (wpAny_pure (h _ λb o n e=>?_)))
 exact Heap.get?_push_of_some _ (Heap.get?_push_of_some _ (by rw [(Heap.SameBut.update ..).2 b n]; exact e))
end
theorem D4:Slot "set_iterator" (Str.ofString "__iter__") "set_iterator.__iter__":=by
 refine Slot.of (owner:="set_iterator") (n:="__iter__") ?_ ?_ ?_ ?_ (.inl ?_) ?_ ?_
 ·rw [typeLookup_type,builtinLookup_eq_fast]; kernel_rfl
 ·decide +kernel
 ·decide +kernel
 ·decide +kernel
 ·decide +kernel
 ·rw [isSubtype_type]; kernel_rfl
 ·decide +kernel
theorem MD:entryFor table "set_iterator.__iter__" = some Builtin.«dict_keyiterator.__iter__»:=entryFor_alias (id':="dict_keyiterator.__iter__") (by kernel_rfl) (by decide +kernel) (by decide +kernel) (by kernel_rfl)
theorem M3 (a:Value):argsOk "set_iterator.__iter__" ⟨[a],[]⟩:=by
 unfold argsOk
 with_unfolding_all rfl
theorem Jb:PySem.W.KdlSrc prog w "set" r r 1 (λ_ v=>∃ t,v = .str y t) (λh=>One prog w h r y) where
 type:=λs ⟨_,_,_,h,_⟩=>⟨_,h,rfl⟩
 there:=λh ⟨_,_,_,o,_⟩=>⟨Heap.lt_size o,Heap.lt_size o⟩
 keep:=λh h' ⟨t,ep,tb,o,q⟩ k=>⟨t,ep,tb,k r (.inl rfl) _ o,q⟩
 notList:=by decide
 notTuple:=by decide
 hint:=λA E s Q ⟨_,_,_,h,_⟩ q=>FU ⟨_,h,rfl⟩ q
 iter:=λA s hh ⟨t,ep,tb,o,hf,hl⟩=>by
  have hne:r≠s.heap.objs.size:=Nat.ne_of_lt (Heap.lt_size o)
  refine ⟨xG r 0 0 ep,λi h=>∃ f:Nat,h.get? s.heap.objs.size = some (xG r f i ep)/\h.get? r = some (pM w prog y t ep tb)/\(i = 0->f = 0)/\(i = 1->(fi w = true\/∃ j,tb.place = #[j]/\f = j+1)),λE Q q=>F0 o hf q,⟨by simp,?_,?_,?_,?_⟩,⟨0,Heap.get?_push_size _ rfl,Heap.get?_push_of_some _ o,λ_=>rfl,λz=>nomatch z⟩⟩
  ·rintro i h h' ⟨f,h1,h2,h3⟩ k
   exact ⟨f,k _ (by simp) _ h1,k _ (by simp) _ h2,h3⟩
  ·rintro i s1 Q E hi ⟨f,h1,h2,h3,h4⟩ q
   have e:i = 0:=by omega
   subst e
   have f0:=h3 rfl
   subst f0
   exact Fj h2 hf hl h1 λf h' hc g1 g2=>q _ h' _ ⟨t,rfl⟩ ⟨f,g1,g2 r _ hne h2,λz=>(nomatch z),λ_=>hc⟩ λb o hb e=>g2 b o (by simpa using hb) e
  ·rintro s1 Q E ⟨f,h1,h2,h3,h4⟩ q
   exact IU hh h2 hf hl (h4 rfl) h1 λh' g=>q h' _ λb o hb e=>g b o (by simpa using hb) e
  ·rintro i s1 Q E ⟨f,h1,h2,_⟩ q
   have hT:s1.TypeIs (.ref s.heap.objs.size) "set_iterator":=⟨_,h1,rfl⟩
   exact wpAny_pyIter_slot hT D4 (wpAny_call_entry D4 hT MD (wpAny_pure ⟨_,rfl,"set_iterator",_,hT,mP.lookup,q⟩) (M3 _))
end
end L2
end
section
namespace L2
open PySem PySem.Spec PyProof.Rows
section
def MB (P:Program) (w:World) (K:W.Frag):List V->Hp->VK->Prop:=λxs H Q=>match xs with
 | [.ref l]=>∃ y:Str,cR K H l [.str y]/\∀ d,H d = none->Q (.ref d) (upd H d (.ext λh=>One P w h d y))
 | _=>False
theorem Di (hc:X.calm = true):cq X (.type "set") (MB X.prog X.w X.K):=by
 intro pins s σ H xs us Q I r h
 unfold MB at h
 split at h
 ·obtain ⟨y,h1,h3⟩:=h
  obtain ⟨u,rfl,ru⟩:=vals1 r
  cases ru
  obtain ⟨its,rv,pl,hz⟩:=I.list h1
  obtain ⟨u,rfl,t,rfl⟩:=vals1 rv
  refine call_one (I.ok.hd hc) pl.isList λh' tk hS hk=>?_
  refine ⟨.ref s.heap.objs.size,_,I.laid (t':=tk) (o:=.ext λh=>One X.prog X.w h s.heap.objs.size y) hk (Nat.le_refl _) ⟨hS,?_,?_⟩,rfl,h3 _ I.fresh⟩
  ·obtain ⟨_,_,_,ho,_⟩:=hS
   exact ⟨_,ho⟩
  ·rintro h1 h2 ⟨t,ep,tb,ho,r⟩ k
   exact ⟨t,ep,tb,k _ ho,r⟩
 ·exact h.elim
def G8 (P:Program) (w:World):List V->Hp->VK->Prop:=λxs H Q=>match xs with
 | [.ref l]=>∃ y:Str,H l = some (.ext λh=>One P w h l y)/\∀ d,H d = none->Q (.ref d) (upd H d (.lst [.str y]))
 | _=>False
theorem Dw (hc:X.calm = true):cq X (.builtin "sorted") (G8 X.prog X.w):=by
 intro pins s σ H xs us Q I r h
 unfold G8 at h
 split at h
 ·rename_i l
  obtain ⟨y,h1,h3⟩:=h
  obtain ⟨u,rfl,ru⟩:=vals1 r
  cases ru
  have ho:One X.prog X.w s.heap l y:=(I.bt _ _ h1).1
  refine Calls.call_function_entry kind_sorted plain_sorted entry_sorted (args_sorted1 _) ?_
  unfold Builtin.«sorted»
  refine wpAny_bind (m:=checkCount "sorted" 1 1 _) (wpAny_pure ?_)
  refine wpAny_bind (PySem.W.kdu_collect (A:=X.A.in1) (Jb (y:=y)) ?_ ho (by decide) λh' tk acc hk hacc=>?_)
  ·simpa using I.ok.hd hc
  have hS:StrsAre acc.toList [y]:=l6 (by rw [Array.length_toList,hacc.1]; rfl) λj y' v hy hv=>by
   obtain ⟨t,e⟩:=hacc.2 j v (by rw [←Array.getElem?_toList]; exact hv)
   have:j = 0:=by
    have:=(List.getElem?_eq_some_iff.mp hy).1
    simpa using this
   subst this
   cases hy
   exact ⟨t,e⟩
  have hlen:acc.toList.length = 1:=by rw [Array.length_toList,hacc.1]
  refine wpAny_bind (wpAny_newList ?_ (by rw [hlen]; decide))
  have hoL:(h'.push (seqObj "list" acc.toList.toArray 0)).get? h'.objs.size = some (seqObj "list" acc.toList.toArray 0):=Heap.get?_push_size _ rfl
  show wpAny _ _ _ _ _ { s with heap:=h'.push (seqObj "list" acc.toList.toArray 0),toks:=tk }
  refine wpAny_bind (wpAny_holding (wpAny_call_entry slot_list_sort ⟨_,hoL,rfl⟩ entry_list_sort (list_sort_treeK strKind_oneLt hoL hS.keysOf (λv₁ v₂ rest e=>keyKind_strs (by rw [←e]; exact hS)) (by rw [hlen]; decide) λst' a1 a2=>⟨_,rfl,?_⟩) (args_list_sort _)))
  refine wpAny_pure ⟨_,rfl,?_⟩
  obtain ⟨ss',b1,b2,b3⟩:=sorted_out_str hS a1 a2
  have e:ss' = [y]:=List.perm_singleton.mp b2
  subst e
  obtain ⟨en,he⟩:=sortedHeap_at (out:=(arrOf st').map (·.2)) hoL
  have hg:s.heap.get? h'.objs.size = none:=by
   cases z:s.heap.get? h'.objs.size with
   | none=>rfl
   | some u=>exact absurd (Heap.lt_size (hk _ _ z)) (Nat.lt_irrefl _)
  have hn:H h'.objs.size = none:=by
   cases z:H h'.objs.size with
   | none=>rfl
   | some u=>obtain ⟨v,e⟩:=(I.bt _ _ z).here; rw [hg] at e; cases e
  have old:∀ b u,s.heap.get? b = some u->(sortedHeap (h'.push (seqObj "list" acc.toList.toArray 0)) h'.objs.size acc.toList ((arrOf st').map (·.2))).get? b = some u:=λb u e=>by
   have e1:=hk b u e
   have l1:=Heap.lt_size e1
   rw [sortedHeap_old (Nat.ne_of_lt l1) (by rw [size_push']; exact Nat.lt_succ_of_lt l1)]
   exact Heap.get?_push_of_some _ e1
  have hq:=h3 _ hn
  show ∃ v H',Inv X pins σ H' { s with heap:=sortedHeap (h'.push (seqObj "list" acc.toList.toArray 0)) h'.objs.size acc.toList ((arrOf st').map (·.2)),toks:=tk }/\RelV v (.ref h'.objs.size)/\Q v H'
  generalize sortedHeap (h'.push (seqObj "list" acc.toList.toArray 0)) h'.objs.size acc.toList ((arrOf st').map (·.2)) = HH at he old ⊢
  refine ⟨.ref h'.objs.size,_,HD (t':=tk) I old hg hn (o:=.lst [V.str y]) ⟨?_,_,en,iH (ys:=[y]) b1,he⟩,rfl,hq⟩
  show (1:Nat)<=sizeLine
  decide
 ·exact h.elim
def B6 (d:Dv):Rs Dv:=match d with
 | .lst [.str y]=>.ok (.lst [.str y])
 | _=>.bad
theorem K4 (hm:X.mg "sorted" = none) (hm2:X.mg "set" = none) (ha:DB X E a m) (hs:isStar a = false:=by rfl) (hc:X.calm = true:=by rfl) (hg:Gl X "sorted":=by rfl) (hg2:Gl X "set":=by rfl):
  DE X E (.Call (.Name "sorted" p) [.Call (.Name "set" p2) [a] [] pos2] [] pos) (m1 B6 m):=
 (gJ (Dw hc) hg hm boot_sorted (d6 (pC (Di hc) hg2 hm2 (show bootBuiltins "set" = some (.type "set") by decide +kernel) (d6 ha dm hs) (by decide) (by decide) (b5 hs) (cu rfl)) dm rfl) (by decide) (by decide) (b5 rfl) (cu rfl)).imp λσ H Q ⟨B,P,ρ,r,o⟩=>
  ⟨B,P,ρ,r,o.bind λd H1 _ s1 o1 v hv=>by
    unfold B6 at o1
    split at o1
    ·rename_i y _
     obtain ⟨a,xs,rfl,g1,g2,v0,vs,rfl,⟨rfl,g3⟩,rfl⟩:=hv
     refine ⟨y,g1.sq,λq hq=>⟨y,bj,λd hd=>?_⟩⟩
     have nq:d≠q:=λz=>by rw [z,bj] at hd; cases hd
     have s2:aK H1 (upd (upd H1 q (.ext λh=>One X.prog X.w h q y)) d (.lst [V.str y])):=((aK.refl _).upd hq).trans ((aK.refl _).upd hd)
     rw [aZ nq] at hd
     refine o1 _ s2 _ ⟨d,_,rfl,.inl ⟨bj,λz=>(r.same s1).old d z hd⟩,by show (1:Nat)<=sizeLine; decide,⟨_,_,rfl,⟨rfl,g3⟩,rfl⟩⟩
    ·exact o1.elim⟩
end
end L2
end
section
namespace My
open PySem L2
local macro_rules
| `(cO $k $d $s $h:ident $b)=>`(ve (k:=$k) $d $s (by decide) (λf cdv A outer s H E $h=>$b))
| `(cW $k $d $s $h:ident $b)=>`(Jm (k:=$k) $d $s (by decide) (λf cdv A outer s H E $h=>$b))
| `(scP $a0)=>`(⟨rfl,rfl,rfl,by decide +kernel,rfl,by decide +kernel,by decide +kernel⟩)
def top (i:Nat):Stmt:=PySem.Challenge.pw_ladingchain_k23_days_never_fall.main.body.getD i (.Pass ⟨0,0,0,0⟩)
abbrev l7:Stmt:=top 28
theorem sL:aD ["sign"] ["sign"] (ah l7):=scP 0
abbrev lP:Stmt:=top 29
theorem xD:aD ["text"] ["text"] (ah lP):=scP 0
abbrev mO:Stmt:=top 41
theorem tF:aD ["value","least","most"] ["value","least","most"] (ah mO):=scP 0
abbrev sI:Stmt:=top 42
theorem zy:aD ["value"] ["value"] (ah sI):=scP 0
abbrev sM:Stmt:=top 43
theorem zA:aD ["value"] ["value"] (ah sM):=scP 0
abbrev pz:Stmt:=top 44
theorem v9:aD ["value"] ["value"] (ah pz):=scP 0
abbrev qx:Stmt:=top 45
theorem xN:aD ["value"] ["value"] (ah qx):=scP 0
abbrev qH:Stmt:=top 46
theorem xP:aD ["value"] ["value"] (ah qH):=scP 0
abbrev fB:Stmt:=top 50
theorem kZ:aD ["names"] ["names"] (ah fB):=scP 0
abbrev mW:Stmt:=top 55
theorem tE:aD ["deed"] ["deed"] (ah mW):=scP 0
abbrev qG:Stmt:=top 56
theorem iM:aD ["row","sorts","sort","value"] ["row"] (ah qG):=scP 0
abbrev kF:Stmt:=top 57
theorem oh:aD ["row","deed"] ["row"] (ah kF):=scP 0
abbrev qX:Stmt:=top 58
theorem ym:aD ["row"] ["row"] (ah qX):=scP 0
abbrev ph:Stmt:=top 74
theorem wo:aD ["hands"] ["hands"] (ah ph):=scP 0
abbrev pQ:Stmt:=top 75
theorem og:aD ["store","hands","hand"] ["store","hands"] (ah pQ):=scP 0
abbrev j1:Stmt:=top 78
theorem jR:aD ["store","names","name"] ["store","names"] (ah j1):=scP 0
abbrev pJ:Stmt:=top 84
theorem wd:aD ["store","row"] ["store","row"] (ah pJ):=scP 0
abbrev qT:Stmt:=top 93
theorem xH:aD ["name","number"] ["name","number"] (ah qT):=scP 0
abbrev pw:Stmt:=top 94
theorem gM:aD ["store","row","parcel","made_over","copies","text","owed"] ["store","row"] (ah pw):=scP 0
abbrev qy:Stmt:=top 114
theorem yF:aD ["store","row"] ["store","row"] (ah qy):=scP 0
abbrev qA:Stmt:=top 116
theorem xp:aD ["day"] ["day"] (ah qA):=scP 0
abbrev pE:Stmt:=top 119
theorem wc:aD ["store"] ["store"] (ah pE):=scP 0
abbrev vZ:Stmt:=top 121
theorem BX:aD ["_law_script","_law_k"] ["_law_script","_law_k"] (ah vZ):=scP 0
abbrev lV:Stmt:=top 122
theorem xr:aD ["_law_found","_law_due"] ["_law_found","_law_due"] (ah lV):=scP 0
abbrev my:Stmt:=top 123
theorem dA:aD ["_law_script","_law_place","_law_many","_law_cell","_law_mixed","_law_out","_law_k"] ["_law_script","_law_place","_law_many"] (ah my):=scP 0
abbrev mz:Stmt:=top 124
theorem fo:aD ["_law_number","_law_out","_law_left"] ["_law_number"] (ah mz):=scP 0
abbrev qY:Stmt:=top 125
theorem ow:aD ["_law_script","_law_place","_law_cell"] ["_law_script","_law_place"] (ah qY):=scP 0
abbrev lH:Stmt:=top 126
theorem pF:aD ["_law_script","_law_place","_law_many","_law_first"] ["_law_script","_law_place","_law_many"] (ah lH):=scP 0
abbrev iL:Stmt:=top 127
theorem rf:aD ["_law_lines"] ["_law_lines"] (ah iL):=scP 0
abbrev lq:Stmt:=top 128
theorem rG:aD ["_law_figs","_law_k"] ["_law_figs","_law_k"] (ah lq):=scP 0
abbrev sv:Stmt:=top 129
theorem lJ:aD ["_law_figs","_law_last","_law_near","_law_menu"] ["_law_figs","_law_last"] (ah sv):=scP 0
abbrev pf:Stmt:=top 130
theorem jW:aD ["_law_book","_law_row","_law_refused"] ["_law_book","_law_row"] (ah pf):=scP 0
abbrev j0:Stmt:=top 131
theorem gD:aD ["_law_book","_law_day_here","_law_refused"] ["_law_book","_law_day_here"] (ah j0):=scP 0
abbrev tp:Stmt:=top 132
theorem f7:aD ["_law_script","_law_hands","_law_book","_law_lines","_law_last","_law_k","_law_figs","_law_day_here","_law_row","_law_cell","_law_papers"] ["_law_script"] (ah tp):=scP 0
abbrev kM:Stmt:=clsAt (top 71) 0
theorem qo:aD ["self","parcel","tons","holder","made_over"] ["self","parcel","tons","holder","made_over"] (ah kM):=scP 0
abbrev lh:Stmt:=clsAt (top 72) 0
theorem rh:aD ["self","parcel","tons","kind","copies"] ["self","parcel","tons","kind","copies"] (ah lh):=scP 0
abbrev jY:Stmt:=clsAt (top 73) 0
theorem oH:aD ["self"] ["self"] (ah jY):=scP 0
abbrev kW:Stmt:=clsAt (top 109) 0
theorem qp:aD ["self","hands"] ["self","hands"] (ah kW):=scP 0
abbrev oj:Stmt:=clsAt (top 109) 1
theorem uC:aD ["self","row"] ["self","row"] (ah oj):=scP 0
abbrev k8:Stmt:=clsAt (top 109) 2
theorem rm:aD ["self","row"] ["self","row"] (ah k8):=scP 0
abbrev k9:Stmt:=clsAt (top 117) 0
theorem rk:aD ["self","hands"] ["self","hands"] (ah k9):=scP 0
abbrev lx:Stmt:=clsAt (top 117) 1
theorem rA:aD ["self"] ["self"] (ah lx):=scP 0
abbrev fZ:Stmt:=clsAt (top 117) 2
theorem jP:aD ["self","day"] ["self","day"] (ah fZ):=scP 0
abbrev pv:Stmt:=clsAt (top 117) 3
theorem wm:aD ["self","row"] ["self","row"] (ah pv):=scP 0
abbrev lG:Stmt:=clsAt (top 117) 4
theorem zm:aD ["self"] ["self"] (ah lG):=scP 0
abbrev ff:Stmt:=clsAt (top 117) 5
theorem gg:aD ["self","number","names","later"] ["self","number"] (ah ff):=scP 0
abbrev ji:Stmt:=clsAt (top 117) 6
theorem nv:aD ["self","day","number"] ["self","day","number"] (ah ji):=scP 0
abbrev oa:Stmt:=clsAt (top 117) 7
theorem u9:aD ["self","day","number"] ["self","day","number"] (ah oa):=scP 0
abbrev vh:Stmt:=clsAt (top 117) 8
theorem j5:aD ["self","day","store","row","stands"] ["self","day"] (ah vh):=scP 0
def ky:List (Str×Dv):=[("give",.tup [.str "day",.str "name",.str "name",.str "name",.str "tons",.str "kind",.str "name",.str "copies"]),("sign",.tup [.str "day",.str "copy",.str "name",.str "to"]),("pass",.tup [.str "day",.str "paper",.str "name",.str "name"]),("take",.tup [.str "day",.str "paper",.str "name"]),("part",.tup [.str "day",.str "paper",.str "name",.str "pieces"]),("join",.tup [.str "day",.str "name",.str "name",.str "notes"]),("stop",.tup [.str "day",.str "name",.str "name"]),("lift",.tup [.str "day",.str "name",.str "name"]),("paid",.tup [.str "day",.str "name",.str "name"])]
def Ca (c h:Str):Option Bool:=if c = "BadForm"/\h = "BadForm" then some true else if c = "BadForm"/\h = "DayFalls" then some false else if c = "DayFalls"/\h = "BadForm" then some false else if c = "DayFalls"/\h = "DayFalls" then some true else if c = "DayOver"/\h = "BadForm" then some false else if c = "DayOver"/\h = "DayFalls" then some false else if c = "Full"/\h = "BadForm" then some false else if c = "Full"/\h = "DayFalls" then some false else if c = "NameTaken"/\h = "BadForm" then some false else if c = "NameTaken"/\h = "DayFalls" then some false else if c = "NamedLater"/\h = "BadForm" then some false else if c = "NamedLater"/\h = "DayFalls" then some false else if c = "NoSuch"/\h = "BadForm" then some false else if c = "NoSuch"/\h = "DayFalls" then some false else if c = "Struck"/\h = "BadForm" then some false else if c = "Struck"/\h = "DayFalls" then some false else none
structure Txt (w:World) (K:W.Frag) (mg:Str->Option Value):Prop where
 ur:HasDef K mg "small_letter" l7 ["sign"]
 zv:HasDef K mg "good_name" lP ["text"]
 uh:HasDef K mg "whole_within" mO ["value","least","most"]
 BF:HasDef K mg "day_fits" sI ["value"]
 CJ:HasDef K mg "tons_fit" sM ["value"]
 xJ:HasDef K mg "copies_fit" pz ["value"]
 zG:HasDef K mg "kind_fits" qx ["value"]
 z9:HasDef K mg "name_fits" qH ["value"]
 lM:HasDef K mg "names_fit_and_differ" fB ["names"]
 ub:HasDef K mg "sorts_behind" mW ["deed"]
 zQ:HasDef K mg "check_row" qG ["row"]
 ya:HasDef K mg "names_told" kF ["row"]
 zV:HasDef K mg "row_names" qX ["row"]
 xY:HasDef K mg "check_roll" ph ["hands"]
 yi:HasDef K mg "need_hands" pQ ["store","hands"]
 qq:HasDef K mg "need_free_names" j1 ["store","names"]
 wW:HasDef K mg "judge_give" pJ ["store","row"]
 zS:HasDef K mg "copy_text" qT ["name","number"]
 CO:HasDef K mg "do_give" pw ["store","row"]
 zI:HasDef K mg "all_named" qy ["store","row"]
 zL:HasDef K mg "check_day" qA ["day"]
 xf:HasDef K mg "all_papers" pE ["store"]
 Ef:HasDef K mg "_law_at" vZ ["_law_script","_law_k"]
 qF:HasDef K mg "_law_same" lV ["_law_found","_law_due"]
 uF:HasDef K mg "_law_figures" my ["_law_script","_law_place","_law_many"]
 uZ:HasDef K mg "_law_letters" mz ["_law_number"]
 Ad:HasDef K mg "_law_base" qY ["_law_script","_law_place"]
 zt:HasDef K mg "_law_roll" lH ["_law_script","_law_place","_law_many"]
 si:HasDef K mg "_law_standing" iL ["_law_lines"]
 sC:HasDef K mg "_law_pick_day" lq ["_law_figs","_law_k"]
 Cv:HasDef K mg "_law_day" sv ["_law_figs","_law_last"]
 xh:HasDef K mg "_law_falls" pf ["_law_book","_law_row"]
 qf:HasDef K mg "_law_at_refused" j0 ["_law_book","_law_day_here"]
 N6:HasDef K mg "law" tp ["_law_script"]
 Jo:jt K mg "Paper" "Paper.__init__" kM ["self","parcel","tons","holder","made_over"]
 Ll:jt K mg "Bill" "Bill.__init__" lh ["self","parcel","tons","kind","copies"]
 Gg:jt K mg "Parcel" "Parcel.__init__" jY ["self"]
 Js:jt K mg "Store" "Store.__init__" kW ["self","hands"]
 wb:eF K "Store" "judge" "Store.judge" oj ["self","row"]
 sY:eF K "Store" "perform" "Store.perform" k8 ["self","row"]
 KU:jt K mg "Book" "Book.__init__" k9 ["self","hands"]
 tV:eF K "Book" "last_day" "Book.last_day" lx ["self"]
 jT:eF K "Book" "check_order_of_days" "Book.check_order_of_days" fZ ["self","day"]
 xT:eF K "Book" "write" "Book.write" pv ["self","row"]
 zC:eF K "Book" "rows" "Book.rows" lG ["self"]
 pL:eF K "Book" "named_later" "Book.named_later" ff ["self","number"]
 oo:eF K "Book" "check_strike" "Book.check_strike" ji ["self","day","number"]
 wk:eF K "Book" "strike" "Book.strike" oa ["self","day","number"]
 DK:eF K "Book" "at" "Book.at" vh ["self","day"]
 nh:dg K ["Store"] "bills"
 Fh:dg K ["Bill"] "copies"
 JT:dg K ["Bill"] "fate"
 n8:dg K ["Store","Book"] "hands"
 Dg:dg K ["Paper"] "holder"
 Jg:dg K ["Bill"] "kind"
 jK:dg K ["Book"] "latest"
 yj:dg K ["Paper"] "made_over"
 Ao:dg K ["Parcel"] "owed"
 oW:dg K ["Store"] "papers"
 vd:dg K ["Paper","Bill"] "parcel"
 gW:dg K ["Store"] "parcels"
 yE:dg K ["Store"] "roots"
 zB:dg K ["Paper"] "signings"
 Ga:dg K ["Paper"] "spent"
 Fo:dg K ["Parcel"] "stops"
 k7:dg K ["Book"] "struck"
 Gz:dg K ["Parcel"] "taken"
 An:dg K ["Paper","Bill"] "tons"
 dy:dg K ["Book"] "written"
 Kf:fF K mg "KINDS" (.tup [.str "named",.str "order",.str "holder"])
 sf:fF K mg "LAST_DAY" (.int 100000)
 zR:fF K mg "MOST_TONS" (.int 1000000000)
 uN:fF K mg "LONGEST_NAME" (.int 12)
 zZ:fF K mg "LEFT_OPEN" (.str "-")
 wj:fF K mg "MOST_COPIES" (.int 3)
 yK:fF K mg "MOST_HANDS" (.int 40)
 u7:fF K mg "MOST_PARCELS" (.int 60)
 yU:fF K mg "MOST_BILLS" (.int 100)
 qr:fF K mg "FATE_OF_UNSPENT" (.tup [.str "open",.int 0,.str "",.int 0])
 zU:fF K mg "MOST_ROWS" (.int 300)
 pO:fF K mg "DEEDS_ON_PARCELS" (.tup [.str "stop",.str "lift",.str "paid"])
 iB:pI K mg "BadForm" (aR mg "BadForm")
 Ck:pI K mg "DayFalls" (aR mg "DayFalls")
 ED:pI K mg "DayOver" (aR mg "DayOver")
 yC:pI K mg "Full" (aR mg "Full")
 zN:pI K mg "NameTaken" (aR mg "NameTaken")
 yA:pI K mg "NamedLater" (aR mg "NamedLater")
 xb:pI K mg "NoSuch" (aR mg "NoSuch")
 Gb:pI K mg "Struck" (aR mg "Struck")
 CZ:mg "BadForm" = some (.ref (aR mg "BadForm"))
 BM:mg "DayFalls" = some (.ref (aR mg "DayFalls"))
 Bj:pe K w mg "FORMS" ky
 GP:gn K w mg "CHECKS" [("day",.ref (aR mg "day_fits")),("tons",.ref (aR mg "tons_fit")),("copies",.ref (aR mg "copies_fit")),("kind",.ref (aR mg "kind_fits")),("name",.ref (aR mg "name_fits")),("to",.ref (aR mg "receiver_fits")),("copy",.ref (aR mg "copy_fits")),("paper",.ref (aR mg "paper_fits")),("pieces",.ref (aR mg "pieces_fit")),("notes",.ref (aR mg "notes_fit"))]
 FH:gn K w mg "JUDGES" [("give",.ref (aR mg "judge_give")),("sign",.ref (aR mg "judge_sign")),("pass",.ref (aR mg "judge_pass")),("take",.ref (aR mg "judge_take")),("part",.ref (aR mg "judge_part")),("join",.ref (aR mg "judge_join")),("stop",.ref (aR mg "judge_stop")),("lift",.ref (aR mg "judge_lift")),("paid",.ref (aR mg "judge_paid"))]
 IJ:gn K w mg "DOERS" [("give",.ref (aR mg "do_give")),("sign",.ref (aR mg "do_sign")),("pass",.ref (aR mg "do_pass")),("take",.ref (aR mg "do_take")),("part",.ref (aR mg "do_part")),("join",.ref (aR mg "do_join")),("stop",.ref (aR mg "do_stop")),("lift",.ref (aR mg "do_lift")),("paid",.ref (aR mg "do_paid"))]
 sub:HZ K mg Ca
 nI:mg "all" = none
 Cr:mg "any" = none
 yQ:mg "bool" = none
 zX:mg "enumerate" = none
 CF:mg "int" = none
 bR:mg "isinstance" = none
 bQ:mg "len" = none
 hZ:mg "list" = none
 B7:mg "max" = none
 B8:mg "min" = none
 mL:mg "range" = none
 Ic:mg "set" = none
 rR:mg "sorted" = none
 wu:mg "str" = none
 pZ:mg "tuple" = none
 Ni:mg "zip" = none
abbrev CD (P:Program) (w:World) (K:W.Frag) (mg:Str->Option Value) (base:Heap) (x:Str) (n:Nat) (ps:List Str) (f:DF):Prop:=Callee P w K mg base (dF P w) x n ps (ic K mg f)
section
variable {P:Program} {w:World} {K:W.Frag} {mg:Str->Option Value} {base:Heap}
variable (T:Txt w K mg)
include T
def uj:MS:=
 (aQ (oK sH sH (mC (.str "a")) (mB 0) (mC (.str "z"))))
def dq:DF:=aV 1 1 uj
theorem um:CD P w K mg base "small_letter" 1 ["sign"] dq:=
 cO 0 T.ur sL hr (
  (aJ (bz (AS xZ yI xZ yI (ak fG) (ae 0) (ak fG)))))
def zD:MS:=
 (aT (bP (d5 (bO ja (m1 b6 (mB 0)) (mC (.int 1))) (bO Ai (m1 b6 (mB 0)) (mC (.int 12)))) (aQ (mC (.bl false))) aL)
     (aQ (m1 lT (bW (cH (cX (mB 0)) 1 [] (gN 0) dC (aI (λτ l=>cb (dq τ l)) (aa (mV 0) ai)))))))
def jG:DF:=aV 1 1 zD
theorem zP:CD P w K mg base "good_name" 2 ["text"] jG:=
 cO 1 T.zv xD hr (
  (a9 (cQ (lg (w_or (bM uw uD (ak (cK bQ eT T.bQ PySem.boot_len (ae 0))) (ak au)) (jD (bM FE F2 (ak (cK bQ eT T.bQ PySem.boot_len (ae 0))) (ak (fH T.uN)))))) (aJ (bz fz)) bZ)
   (aJ (bz (cK nI wL T.nI PyProof.Rows.boot_all (ak (iF (iV (N:=["sign"]) (nt:=1) (fr:=[]) (ah lP) (by decide +kernel) (ir (ae 0)) (λcl C s₀ H₀ ex=>⟨(ck (i:=0) (show (["sign"]:List Str).Nodup by decide +kernel)),iO,(mf (um T) hr (af (aj 0) aA))⟩)))))))))
def mv:MS:=
 (aT (bP (d5 (cZ (bU (m1 (cF ["int"]) (mB 0)))) (bU (m1 (cF ["bool"]) (mB 0)))) (aQ (mC (.bl false))) aL)
     (aQ (oK sH sH (mB 1) (mB 0) (mB 2))))
def eG:DF:=aV 3 3 mv
theorem jk:CD P w K mg base "whole_within" 1 ["value","least","most"] eG:=
 cO 0 T.uh tF hr (
  (a9 (cQ (lg (w_or (jA (eU (ak (dU T.bR (ae 0) (fk T.CF PyProof.Rows.boot_int))))) (jD (eU (ak (dU T.bR (ae 0) (fk T.yQ PyProof.Rows.boot_bool))))))) (aJ (bz fz)) bZ)
   (aJ (bz (AS xZ yI xZ yI (ae 1) (ae 0) (ae 2))))))
def tY:MS:=
 (aQ (aI eG (aa (mV 0) (aa (mC (.int 0)) (aa (mC (.int 100000)) ai)))))
def gX:DF:=aV 1 1 tY
theorem tH:CD P w K mg base "day_fits" 2 ["value"] gX:=
 cO 1 T.BF zy hr (
  (aJ (bz (bV az (jk T) hr (af (aj 0) (af au (af (fH T.sf) aA)))))))
def sA:MS:=
 (aQ (aI eG (aa (mV 0) (aa (mC (.int 1)) (aa (mC (.int 1000000000)) ai)))))
def iQ:DF:=aV 1 1 sA
theorem Br:CD P w K mg base "tons_fit" 2 ["value"] iQ:=
 cO 1 T.CJ zA hr (
  (aJ (bz (bV az (jk T) hr (af (aj 0) (af au (af (fH T.zR) aA)))))))
def oM:MS:=
 (aQ (aI eG (aa (mV 0) (aa (mC (.int 1)) (aa (mC (.int 3)) ai)))))
def gB:DF:=aV 1 1 oM
theorem yu:CD P w K mg base "copies_fit" 2 ["value"] gB:=
 cO 1 T.xJ v9 hr (
  (aJ (bz (bV az (jk T) hr (af (aj 0) (af au (af (fH T.wj) aA)))))))
def zW:MS:=
 (aQ (m2 (pP false) (mB 0) (mC (.tup [.str "named",.str "order",.str "holder"]))))
def jz:DF:=aV 1 1 zW
theorem zE:CD P w K mg base "kind_fits" 1 ["value"] jz:=
 cO 0 T.zG xN hr (
  (aJ (bz (tT GU CG (ae 0) (ak (fH T.Kf))))))
def qQ:MS:=
 (aQ (rn (m1 (cF ["str"]) (mB 0)) (aI jG (aa (mV 0) ai))))
def du:DF:=aV 1 1 qQ
theorem qO:CD P w K mg base "name_fits" 3 ["value"] du:=
 cO 2 T.z9 xP hr (
  (aJ (bz (G6 (dU T.bR (ae 0) (fk T.wu PyProof.Rows.boot_str)) (Hz (bV az (zP T) hr (af (aj 0) aA)))))))
def h8:MS:=
 (aT (bP (cZ (bU (m1 lT (bW (cH (cX (mB 0)) 1 [] (gN 0) dC (aI (λτ l=>cb (du τ l)) (aa (mV 0) ai))))))) (aQ (mC (.bl false))) aL)
     (aQ (m2 d4 (m1 mn (mB 0)) (m1 b6 (mB 0)))))
def dW:DF:=aV 1 1 h8
theorem lZ:CD P w K mg base "names_fit_and_differ" 4 ["names"] dW:=
 cO 3 T.lM kZ hr (
  (a9 (cQ (jA (eU (ak (cK nI wL T.nI PyProof.Rows.boot_all (ak (iF (iV (N:=["name"]) (nt:=1) (fr:=[]) (ah fB) (by decide +kernel) (ir (ae 0)) (λcl C s₀ H₀ ex=>⟨(ck (i:=0) (show (["name"]:List Str).Nodup by decide +kernel)),iO,(mf (qO T) hr (af (aj 0) aA))⟩)))))))) (aJ (bz fz)) bZ)
   (aJ (bz (tT jr jn (ak (Gi T.bQ T.Ic (ae 0))) (ak (cK bQ eT T.bQ PySem.boot_len (ae 0))))))))
def mS:MS:=
 (aT (bP (d5 (cZ (bU (m1 (cF ["str"]) (mB 0)))) (mT (m1 (BQ true ky) (mB 0)))) (bS "BadForm" g9) aL)
     (aQ (m1 (BG ky) (mB 0))))
def gY:DF:=aV 1 1 mS
theorem uO:CD P w K mg base "sorts_behind" 1 ["deed"] gY:=
 cO 0 T.ub tE hr (
  (a9 (cQ (lg (w_or (jA (eU (ak (dU T.bR (ae 0) (fk T.wu PyProof.Rows.boot_str))))) (jD (MV (neg:=true) T.Bj (ae 0))))) (aJ (cY T.iB d9 (fh 10000))) bZ)
   (aJ (bz (N7 T.Bj (ae 0))))))
def gK:List (Str×DF):=[("day",gX),("tons",iQ),("copies",gB),("kind",jz),("name",du)]
theorem ra:p6 P w K mg base 3 [("day",.ref (aR mg "day_fits")),("tons",.ref (aR mg "tons_fit")),("copies",.ref (aR mg "copies_fit")),("kind",.ref (aR mg "kind_fits")),("name",.ref (aR mg "name_fits")),("to",.ref (aR mg "receiver_fits")),("copy",.ref (aR mg "copy_fits")),("paper",.ref (aR mg "paper_fits")),("pieces",.ref (aR mg "pieces_fit")),("notes",.ref (aR mg "notes_fit"))] gK:=
 kc rfl (kd (tH T) (by decide)) (kc rfl (kd (Br T) (by decide)) (kc rfl (kd (yu T) (by decide)) (kc rfl (kd (zE T) (by decide)) (kc rfl (kd (qO T) (by decide)) (EZ)))))
def qZ:MS:=
 (aT (bP (d5 (cZ (bU (m1 (cF ["tuple"]) (mB 0)))) (bO d4 (m1 b6 (mB 0)) (mC (.int 0)))) (bS "BadForm" g9) aL)
     (aT (bC 1 (aI gY (aa (m2 aw (mB 0) (mC (.int 0))) ai)))
     (aT (bP (bO mJ (m1 b6 (mB 0)) (m2 bX (m1 b6 (mB 1)) (mC (.int 1)))) (bS "BadForm" g9) aL)
     (nV (Gf (mV 1) (Ec (mB 0) (wH (mC (.int 1))) wI)) (gT 2 (dJ (gN 2) (dJ (gN 3) j9))) (bP (cZ (bU (km gK (mB 2) (aa (mV 3) ai)))) (bS "BadForm" (pb [g9,(uX 100000 (mV 2)),g9])) aL)))))
def fA:DF:=aV 4 1 qZ
theorem qJ:CD P w K mg base "check_row" 4 ["row"] fA:=by
 have ra:=ra (P:=P) (base:=base) T
 exact cO 3 T.zQ iM hr (
  (a9 (cQ (lg (w_or (jA (eU (ak (dU T.bR (ae 0) (fk T.pZ PyProof.Rows.boot_tuple))))) (jD (bM jr jn (ak (cK bQ eT T.bQ PySem.boot_len (ae 0))) (ak au))))) (aJ (cY T.iB d9 (fh 10000))) bZ)
   (a9 (cz (i:=1) iM.nd (bV az (uO T) hr (af (bE (ae 0) (ak au)) aA)))
   (a9 (cQ (bM rT rK (ak (cK bQ eT T.bQ PySem.boot_len (ae 0))) (ak (dX dP p_add (ak (cK bQ eT T.bQ PySem.boot_len (ae 1))) (ak au)))) (aJ (cY T.iB d9 (fh 10000))) bZ)
   (aJ (wQ az.own (Kq T.Ni (aj 1) (Bg (ae 0) (AG au) AD)) (sy (iE (ck (i:=2) iM.nd) (iE (ck (i:=3) iM.nd) sP))) (aJ (cQ (jA (eU (ak (A8 az T.GP ra hr (ae 2) (af (aj 3) aA))))) (aJ (cY T.iB d9 (xt 10000000 (jm (fh 10000) (jm (Cb (aj 2)) (jm (fh 10000) ze)))))) bZ))))))))
def pH:MS:=
 (aT (bC 1 (m2 aw (mB 0) (mC (.int 0))))
     (aT (bP (bO d4 (mB 1) (mC (.str "give"))) (aQ (bW (aa (m2 aw (mB 0) (mC (.int 2))) ai))) aL)
     (aT (bP (bO d4 (mB 1) (mC (.str "join"))) (aQ (m2 bX (bW (aa (m2 aw (mB 0) (mC (.int 2))) ai)) (m1 dList (m2 aw (mB 0) (mC (.int 4)))))) aL)
     (aT (bP (bO d4 (mB 1) (mC (.str "part"))) (aQ (m2 bX (bW (aa yo ai)) (bW (cH (cX (m2 aw (mB 0) (mC (.int 4)))) 1 [] (gN 0) dC (m2 aw (mB 0) (mC (.int 0))))))) aL)
     (aT (bP (bO (pP false) (mB 1) (gp (aa (mC (.str "sign")) (aa (mC (.str "pass")) (aa (mC (.str "take")) ai))))) (aQ (bW (aa yo ai))) aL)
     (aQ (bW ai)))))))
def kz:DF:=aV 2 1 pH
theorem xE:CD P w K mg base "names_told" 1 ["row"] kz:=
 cO 0 T.ya oh hr (
  (a9 (cz (i:=1) oh.nd (bE (ae 0) (ak au)))
   (a9 (cQ (bM jr jn (ae 1) (ak fG)) (aJ (bz (iF (gU (af (bE (ae 0) (ak au)) aA) (eV (aU dN) (show (1:Nat)<=sizeLine by decide)))))) bZ)
   (a9 (cQ (bM jr jn (ae 1) (ak fG)) (aJ (bz (dX dP p_add (ak (iF (gU (af (bE (ae 0) (ak au)) aA) (eV (aU dN) (show (1:Nat)<=sizeLine by decide))))) (ak (Ci hZ yy T.hZ PyProof.Rows.boot_list (ak (bE (ae 0) (ak au)))))))) bZ)
   (a9 (cQ (bM jr jn (ae 1) (ak fG)) (aJ (bz (dX dP p_add (ak (iF (gU (af wD aA) (eV (aU dN) (show (1:Nat)<=sizeLine by decide))))) (ak (iF (iV (N:=["piece"]) (nt:=1) (fr:=[]) (ah kF) (by decide +kernel) (ir (ak (bE (ae 0) (ak au)))) (λcl C s₀ H₀ ex=>⟨(ck (i:=0) (show (["piece"]:List Str).Nodup by decide +kernel)),iO,(bE (ae 0) (ak au))⟩))))))) bZ)
   (a9 (cQ (bM GU CG (ae 1) (ak (t9 (af fG (af fG (af fG aA))) (eV (aU (aU (aU dN))) (show (3:Nat)<=sizeLine by decide))))) (aJ (bz (iF (gU (af wD aA) (eV (aU dN) (show (1:Nat)<=sizeLine by decide)))))) bZ)
   (aJ (bz (iF (gU aA (eV dN (show (0:Nat)<=sizeLine by decide))))))))))))
def qP:MS:=
 (aQ (m1 B6 (aI kz (aa (mV 0) ai))))
def jH:DF:=aV 1 1 qP
theorem zw:CD P w K mg base "row_names" 2 ["row"] jH:=
 cO 1 T.zV ym hr (
  (aJ (bz (K4 T.rR T.Ic (ak (bV az (xE T) hr (af (aj 0) aA)))))))
def ot:MS:=
 (bP (d5 (bO Ai (m1 b6 (mB 0)) (mC (.int 40))) (cZ (bU (aI dW (aa (mV 0) ai))))) (bS "BadForm" g9) aL)
def iY:DF:=aV 1 1 ot
theorem yD:CD P w K mg base "check_roll" 5 ["hands"] iY:=
 cO 4 T.xY wo hr (
  (aJ (cQ (lg (w_or (bM FE F2 (ak (cK bQ eT T.bQ PySem.boot_len (ae 0))) (ak (fH T.yK))) (jD (jA (eU (ak (bV az (lZ T) hr (af (aj 0) aA)))))))) (aJ (cY T.iB d9 (fh 10000))) bZ)))
def yS:MS:=
 (nV (cX (mV 1)) (gN 2) (bP (bO (pP true) (mB 2) (bH ["Store","Book"] "hands" (mB 0))) (bS "NoSuch" (pb [g9,(uX 100000 (mV 2))])) aL))
def kI:DF:=aV 3 2 yS
theorem wX:CD P w K mg base "need_hands" 1 ["store","hands"] kI:=
 cO 0 T.yi og hr (
  (aJ (wQ az.own (p9 (aj 1)) (ck (i:=2) og.nd) (aJ (cQ (bM IV CG (ae 2) (ak (cy T.n8 (ae 0)))) (aJ (cY T.xb d9 (xt 10000000 (jm (fh 10000) (jm (Cb (aj 2)) ze))))) bZ)))))
def jZ:MS:=
 (nV (cX (mV 1)) (gN 2) (bP (d5 (mT (gj false (mB 2) (bH ["Store"] "bills" (mB 0)))) (mT (gj false (mB 2) (bH ["Store"] "roots" (mB 0))))) (bS "NameTaken" (pb [g9,(uX 100000 (mV 2))])) aL))
def fD:DF:=aV 3 2 jZ
theorem qj:CD P w K mg base "need_free_names" 1 ["store","names"] fD:=
 cO 0 T.qq jR hr (
  (aJ (wQ az.own (p9 (aj 1)) (ck (i:=2) jR.nd) (aJ (cQ (lg (w_or (tq (neg:=false) hr (ae 2) (ak (cy T.nh (ae 0)))) (jD (tq (neg:=false) hr (ae 2) (ak (cy T.yE (ae 0))))))) (aJ (cY T.zN d9 (xt 10000000 (jm (fh 10000) (jm (Cb (aj 2)) ze))))) bZ)))))
def kJ:MS:=
 (aT (eW (aI kI (aa (mV 0) (aa (bW (aa (m2 aw (mB 1) (mC (.int 4))) (aa (m2 aw (mB 1) (mC (.int 7))) ai))) ai))))
     (aT (eW (aI fD (aa (mV 0) (aa (bW (aa (m2 aw (mB 1) (mC (.int 2))) ai)) ai))))
     (aT (bP (dH (mT (gj true (m2 aw (mB 1) (mC (.int 3))) (bH ["Store"] "parcels" (mB 0)))) (bO sj (tK (bH ["Store"] "parcels" (mB 0))) (mC (.int 60)))) (bS "Full" g9) aL)
     (bP (bO sj (tK (bH ["Store"] "bills" (mB 0))) (mC (.int 100))) (bS "Full" g9) aL))))
def fI:DF:=aV 2 2 kJ
theorem zh:CD P w K mg base "judge_give" 2 ["store","row"] fI:=
 cO 1 T.wW wd hr (
  (a9 (gA (bV az (wX T) hr (af (aj 0) (af (iF (gU (af (bE (ae 1) (ak au)) (af (bE (ae 1) (ak au)) aA)) (eV (aU (aU dN)) (show (2:Nat)<=sizeLine by decide)))) aA))))
   (a9 (gA (bV az (qj T) hr (af (aj 0) (af (iF (gU (af (bE (ae 1) (ak au)) aA) (eV (aU dN) (show (1:Nat)<=sizeLine by decide)))) aA))))
   (a9 (cQ (lg (w_and (tq (neg:=true) hr (ak (bE (ae 1) (ak au))) (ak (cy T.gW (ae 0)))) (r0 (bM Cc B5 (ak (ER T.bQ (ak (cy T.gW (ae 0))))) (ak (fH T.u7)))))) (aJ (cY T.yC d9 (fh 10000))) bZ)
   (aJ (cQ (bM Cc B5 (ak (ER T.bQ (ak (cy T.nh (ae 0))))) (ak (fH T.yU))) (aJ (cY T.yC d9 (fh 10000))) bZ))))))
def zr:MS:=
 (aQ (tZ [(m1 pd (mV 0)),(mC (.str "/")),(m1 pd (mV 1))] Str.empty))
def h9:DF:=aV 2 2 zr
theorem zH:CD P w K mg base "copy_text" 1 ["name","number"] h9:=
 cO 0 T.zS xH hr (
  (aJ (bz (MN (uv (Hr (aj 0)) (uv fG (uv (Hr (aj 1)) Lx)))))))
def rE:MW:=
 (aX (de ["Paper","Bill"] "parcel" (mV 0) (dr (mV 1)))
     (aX (de ["Paper","Bill"] "tons" (mV 0) (dr (mV 2)))
     (aX (de ["Paper"] "holder" (mV 0) (dr (mV 3)))
     (aX (de ["Paper"] "made_over" (mV 0) (dr (mV 4)))
     (aX (de ["Paper"] "signings" (mV 0) sU)
     (de ["Paper"] "spent" (mV 0) (dr (mC (.bl false)))))))))
def fU:DX:=d3 5 rE
theorem rS:Maker P w K mg base "Paper" 1 5 fU:=by
 exact oE (k:=0) T.Jo qo (by decide) (λf cdv A outer s H E hr=>
  (aO (w_fld T.vd (aj 0) (eR (aj 1)))
   (aO (w_fld T.An (aj 0) (eR (aj 2)))
   (aO (w_fld T.Dg (aj 0) (eR (aj 3)))
   (aO (w_fld T.yj (aj 0) (eR (aj 4)))
   (aO (w_fld T.zB (aj 0) EJ)
   (cD (w_fld T.Ga (aj 0) (eR fz)))))))))
def sJ:MW:=
 (aX (de ["Paper","Bill"] "parcel" (mV 0) (dr (mV 1)))
     (aX (de ["Paper","Bill"] "tons" (mV 0) (dr (mV 2)))
     (aX (de ["Bill"] "kind" (mV 0) (dr (mV 3)))
     (aX (de ["Bill"] "copies" (mV 0) (dr (mV 4)))
     (de ["Bill"] "fate" (mV 0) (dr (mC (.tup [.str "open",.int 0,.str "",.int 0]))))))))
def iN:DX:=d3 5 sJ
theorem sk:Maker P w K mg base "Bill" 1 5 iN:=by
 exact oE (k:=0) T.Ll rh (by decide) (λf cdv A outer s H E hr=>
  (aO (w_fld T.vd (aj 0) (eR (aj 1)))
   (aO (w_fld T.An (aj 0) (eR (aj 2)))
   (aO (w_fld T.Jg (aj 0) (eR (aj 3)))
   (aO (w_fld T.Fh (aj 0) (eR (aj 4)))
   (cD (w_fld T.JT (aj 0) (eR (fH T.qr)))))))))
def qg:MW:=
 (aX (de ["Parcel"] "taken" (mV 0) (dr (mC (.int 0))))
     (aX (de ["Parcel"] "owed" (mV 0) jC)
     (de ["Parcel"] "stops" (mV 0) jC)))
def fE:DX:=d3 1 qg
theorem qi:Maker P w K mg base "Parcel" 1 1 fE:=by
 exact oE (k:=0) T.Gg oH (by decide) (λf cdv A outer s H E hr=>
  (aO (w_fld T.Gz (aj 0) (eR au))
   (aO (w_fld T.Ao (aj 0) kO)
   (cD (w_fld T.Fo (aj 0) kO)))))
def C4:MW:=
 (aX (ay (bC 2 (m2 aw (mB 1) (mC (.int 3)))))
     (aX (ay (bC 3 (By (bO d4 (m2 aw (mB 1) (mC (.int 6))) (mC (.str "holder"))) (mC (.str "-")) (m2 aw (mB 1) (mC (.int 7))))))
     (aX (ay (jU 4 (cH (Hx (aa (mC (.int 1)) (aa (m2 bX (m2 aw (mB 1) (mC (.int 8))) (mC (.int 1))) ai))) 1 [1] (gN 0) dC (aI (λτ l=>cb (h9 τ l)) (aa (m2 aw (mB 1) (mC (.int 2))) (aa (mV 0) ai))))))
     (uY 4 (aX (u6 (cX (mV 4)) (gN 5) (kH (bH ["Store"] "papers" (mB 0)) (mV 5) (fW "Paper" 5 fU (aa (mV 2) (aa (m2 aw (mB 1) (mC (.int 5))) (aa (m2 aw (mB 1) (mC (.int 7))) (aa (mV 3) ai)))))))
     (aX (kH (bH ["Store"] "bills" (mB 0)) (m2 aw (mB 1) (mC (.int 2))) (fW "Bill" 5 iN (aa (mV 2) (aa (m2 aw (mB 1) (mC (.int 5))) (aa (m2 aw (mB 1) (mC (.int 6))) (aa (mV 4) ai))))))
     (aX (kq (mT (gj true (mB 2) (bH ["Store"] "parcels" (mB 0)))) (kH (bH ["Store"] "parcels" (mB 0)) (mV 2) (fW "Parcel" 1 fE ai)) (ay aL))
     (aX (ay (bC 6 (bH ["Parcel"] "owed" (wN (bH ["Store"] "parcels" (mB 0)) (mB 2)))))
     (kH (mV 6) (m2 aw (mB 1) (mC (.int 4))) (dr (mC (.bl true))))))))))))
def gz:DX:=d3 7 C4
theorem Fg:Callee P w K mg base (dF P w) "do_give" 3 ["store","row"] (jN K mg 2 gz):=
 cW 2 T.CO gM hr (
  (aO (bF (q:=false) (cz (i:=2) gM.nd (bE (ae 1) (ak au))))
   (aO (bF (q:=false) (cz (i:=3) gM.nd (Nq (bM jr jn (ak (bE (ae 1) (ak au))) (ak fG)) (fH T.zZ) (bE (ae 1) (ak au)))))
   (aO (bF (q:=false) (vo (i:=4) (N:=["number","row"]) (nt:=1) (fr:=[1]) (ah pw) gM.nd (by decide +kernel) (J8 T.mL (af au (af (dX dP p_add (ak (bE (ae 1) (ak au))) (ak au)) aA))) (λcl C s₀ H₀ ex=>⟨(ck (i:=0) (show (["number","row"]:List Str).Nodup by decide +kernel)),iO,(mf (zH T) hr (af (bE (ae 1) (ak au)) (af (aj 0) aA)))⟩)))
   (Hq 4 (aO (BL az.own (p9 (aj 4)) (ck (i:=5) gM.nd) (cD (sZ hr (cy T.oW (ae 0)) (aj 5) (pj az (rS T) hr (af (aj 2) (af (bE (ae 1) (ak au)) (af (bE (ae 1) (ak au)) (af (aj 3) aA))))))))
   (aO (sZ hr (cy T.nh (ae 0)) (bE (ae 1) (ak au)) (pj az (sk T) hr (af (aj 2) (af (bE (ae 1) (ak au)) (af (bE (ae 1) (ak au)) (af (aj 4) aA))))))
   (aO (Bp (tq (neg:=true) hr (ae 2) (ak (cy T.gW (ae 0)))) (cD (sZ hr (cy T.gW (ae 0)) (aj 2) (JI az (qi T) hr))) pX)
   (aO (bF (q:=false) (cz (i:=6) gM.nd (cy T.Ao (ak (L8 hr (ak (cy T.gW (ae 0))) (ae 2))))))
   (cD (sZ hr (aj 6) (bE (ae 1) (ak au)) (eR fz))))))))))))
def qM:MS:=
 (aT (bP (bO (pP false) (m2 aw (mB 1) (mC (.int 0))) (mC (.tup [.str "stop",.str "lift",.str "paid"]))) (aQ yo) aL)
     (aQ (aI jH (aa (mV 1) ai))))
def lF:DF:=aV 2 2 qM
theorem zK:CD P w K mg base "all_named" 3 ["store","row"] lF:=
 cO 2 T.zI yF hr (
  (a9 (cQ (bM GU CG (ak (bE (ae 1) (ak au))) (ak (fH T.pO))) (aJ (bz wD)) bZ)
   (aJ (bz (bV az (zw T) hr (af (aj 1) aA))))))
def lQ:MS:=
 (bP (cZ (bU (aI gX (aa (mV 0) ai)))) (bS "BadForm" g9) aL)
def eC:DF:=aV 1 1 lQ
theorem qu:CD P w K mg base "check_day" 3 ["day"] eC:=
 cO 2 T.zL xp hr (
  (aJ (cQ (jA (eU (ak (bV az (tH T) hr (af (aj 0) aA))))) (aJ (cY T.iB d9 (fh 10000))) bZ)))
def xB:MS:=
 (aQ (HW (bH ["Store"] "papers" (mB 0))))
def kA:DF:=aV 1 1 xB
theorem w9:CD P w K mg base "all_papers" 1 ["store"] kA:=
 cO 0 T.xf wc hr (
  (aJ (bz (K8 T.rR (ak (cy T.oW (ae 0)))))))
def oS:MS:=
 (aT (bP (bO ja (mB 1) (m1 b6 (mB 0))) (aQ (m2 aw (mB 0) (mB 1))) aL)
     (aQ (mC (.int 0))))
def c7:DF:=aV 2 2 oS
theorem jM:CD P w K mg base "_law_at" 1 ["_law_script","_law_k"] c7:=
 cO 0 T.Ef BX hr (
  (a9 (cQ (bM uw uD (ae 1) (ak (cK bQ eT T.bQ PySem.boot_len (ae 0)))) (aJ (bz (bE (ae 0) (ae 1)))) bZ)
   (aJ (bz au))))
def gd (rec:DF):MS:=
 (aT (bP (bU (m1 (cF ["list","tuple"]) (b7 (mB 1)))) (aT (bP (bO mJ (m1 (cF ["list"]) (b7 (mB 0))) (m1 (cF ["list"]) (b7 (mB 1)))) (aQ (mC (.bl false))) aL)
     (aT (bP (d5 (bO mJ (m1 (cF ["tuple"]) (b7 (mB 0))) (m1 (cF ["tuple"]) (b7 (mB 1)))) (bO mJ (m1 b6 (b7 (mB 0))) (m1 b6 (b7 (mB 1))))) (aQ (mC (.bl false))) aL)
     (aQ (m1 lT (bW (cH (jI (aa (m1 b6 (b7 (mB 1))) ai)) 1 [0,1] (gN 0) dC (aI (λτ l=>cb (rec τ l)) (aa (m2 aw (b7 (mB 1)) (b7 (mB 0))) (aa (m2 aw (b7 (mB 2)) (b7 (mB 0))) ai))))))))) aL)
     (aT (bP (d5 (bO mJ (m1 (cF ["bool"]) (b7 (mB 0))) (m1 (cF ["bool"]) (b7 (mB 1)))) (bO mJ (m1 (cF ["int"]) (b7 (mB 0))) (m1 (cF ["int"]) (b7 (mB 1))))) (aQ (mC (.bl false))) aL)
     (aQ (rn (m2 d4 (m1 (cF ["str"]) (b7 (mB 0))) (m1 (cF ["str"]) (b7 (mB 1)))) (m2 d4 (b7 (mB 0)) (b7 (mB 1)))))))
def ba:Nat->DF
 | 0=>λ_ _=>.bad
 | n+1=>aV 2 2 (gd (ba n))
omit T in
theorem df (T:Txt w K mg):∀ n,CD P w K mg base "_law_same" (n+1) ["_law_found","_law_due"] (ba n)
 | 0=>(T.qF.none.imp λvs H Q E ⟨_,_,_,_,_,_,z⟩=>z).more (Nat.zero_le _)
 | n+1=>by
   have df:=df T n
   exact ve (k:=n+1) T.qF xr (by decide) (λf cdv A outer s H E hr=>
    (a9 (cQ (eU (ak (JK T.bR (dj (ae 1)) (fk T.hZ PyProof.Rows.boot_list) (fk T.pZ PyProof.Rows.boot_tuple)))) (a9 (cQ (bM rT rK (ak (dU T.bR (dj (ae 0)) (fk T.hZ PyProof.Rows.boot_list))) (ak (dU T.bR (dj (ae 1)) (fk T.hZ PyProof.Rows.boot_list)))) (aJ (bz fz)) bZ)
    (a9 (cQ (lg (w_or (bM rT rK (ak (dU T.bR (dj (ae 0)) (fk T.pZ PyProof.Rows.boot_tuple))) (ak (dU T.bR (dj (ae 1)) (fk T.pZ PyProof.Rows.boot_tuple)))) (jD (bM rT rK (ak (cK bQ eT T.bQ PySem.boot_len (dj (ae 0)))) (ak (cK bQ eT T.bQ PySem.boot_len (dj (ae 1)))))))) (aJ (bz fz)) bZ)
    (aJ (bz (cK nI wL T.nI PyProof.Rows.boot_all (ak (iF (iV (N:=["_law_k","_law_found","_law_due"]) (nt:=1) (fr:=[0,1]) (ah lV) (by decide +kernel) (qb T.mL (af (cK bQ eT T.bQ PySem.boot_len (dj (ae 1))) aA)) (λcl C s₀ H₀ ex=>⟨(ck (i:=0) (show (["_law_k","_law_found","_law_due"]:List Str).Nodup by decide +kernel)),iO,(mf df hr (af (bE (dj (ae 1)) (dj (ae 0))) (af (bE (dj (ae 2)) (dj (ae 0))) aA)))⟩))))))))) bZ)
    (a9 (cQ (lg (w_or (bM rT rK (ak (dU T.bR (dj (ae 0)) (fk T.yQ PyProof.Rows.boot_bool))) (ak (dU T.bR (dj (ae 1)) (fk T.yQ PyProof.Rows.boot_bool)))) (jD (bM rT rK (ak (dU T.bR (dj (ae 0)) (fk T.CF PyProof.Rows.boot_int))) (ak (dU T.bR (dj (ae 1)) (fk T.CF PyProof.Rows.boot_int))))))) (aJ (bz fz)) bZ)
    (aJ (bz (G6 (tT jr jn (ak (dU T.bR (dj (ae 0)) (fk T.wu PyProof.Rows.boot_str))) (ak (dU T.bR (dj (ae 1)) (fk T.wu PyProof.Rows.boot_str)))) (Hz (tT jr jn (dj (ae 0)) (dj (ae 1))))))))))
def mD:MS:=
 (aT (bC 3 (aI c7 (aa (mV 0) (aa (mV 1) ai))))
     (aT (bC 4 (m2 d4 (m1 (cU 2) (aI c7 (aa (mV 0) (aa (mC (.int 0)) ai)))) (mC (.int 1))))
     (aT (jU 5 ai)
     (aT (nV (jI (aa (mV 2) ai)) (gN 6) (bP (bU (mB 4)) (aT (bC 3 (m1 (cU 2147483647) (m2 bX (m2 bX (m2 bX (m1 (iU 48271) (mB 3)) (m1 (iU 31) (mB 1))) (m1 (iU 7) (mB 6))) (mC (.int 11)))))
     (ju 5 (m1 (cU 2520) (m1 (ig 17) (m1 (cU 2147483629) (m2 bX (m2 bX (m1 (iU 69621) (mB 3)) (mB 1)) (mB 6))))))) (aT (ju 5 (m1 (cU 2520) (mB 3)))
     (bC 3 (m1 (ig 2520) (mB 3))))))
     (ny 5)))))
def fL:DF:=aV 7 3 mD
theorem uE:CD P w K mg base "_law_figures" 2 ["_law_script","_law_place","_law_many"] fL:=
 cO 1 T.uF dA hr (
  (a9 (cz (i:=3) dA.nd (bV az (jM T) hr (af (aj 0) (af (aj 1) aA))))
   (a9 (cz (i:=4) dA.nd (tT jr jn (ak (dM (ak (bV az (jM T) hr (af (aj 0) (af au aA)))))) (ak au)))
   (a9 (HA (i:=5) dA.nd (gU aA (eV dN (show (0:Nat)<=sizeLine by decide))))
   (a9 (wQ az.own (qb T.mL (af (aj 2) aA)) (ck (i:=6) dA.nd) (aJ (cQ (eU (ae 4)) (a9 (cz (i:=3) dA.nd (dM (ak (dX dP p_add (ak (dX dP p_add (ak (dX dP p_add (ak (oy (ae 3))) (ak (oy (ae 1))))) (ak (oy (ae 6))))) (ak au)))))
   (aJ (Cf (i:=5) (dM (ak (kT (ak (dM (ak (dX dP p_add (ak (dX dP p_add (ak (oy (ae 3))) (ae 1))) (ae 6))))))))))) (a9 (Cf (i:=5) (dM (ae 3)))
   (aJ (cz (i:=3) dA.nd (kT (ae 3))))))))
   (aJ (oA 5)))))))
def mQ:MS:=
 (aT (bC 1 (mC (.str "")))
     (aT (bC 2 (mV 0))
     (aT (fK (dH (bO sj (mB 2) (mC (.int 0))) (bO ja (m1 b6 (mB 1)) (mC (.int 12)))) (aT (bC 1 (m2 bX (m2 aw (mC (.str "abcdefghijklmnopqrstuvwxyz")) (m1 (cU 26) (mB 2))) (mB 1)))
     (bC 2 (m2 nr (m1 (ig 26) (mB 2)) (mC (.int 1))))) 13)
     (ny 1))))
def cV:DF:=aV 3 1 mQ
theorem l8:CD P w K mg base "_law_letters" 1 ["_law_number"] cV:=
 cO 0 T.uZ fo hr (
  (a9 (cz (i:=1) fo.nd fG)
   (a9 (cz (i:=2) fo.nd (aj 0))
   (a9 (Kb 13 az.own (lg (w_and (bM Cc B5 (ae 2) (ak au)) (r0 (bM uw uD (ak (cK bQ eT T.bQ PySem.boot_len (ae 1))) (ak au))))) (a9 (cz (i:=1) fo.nd (dX dP p_add (ak (bE (ak fG) (ak (dM (ae 2))))) (ae 1)))
   (aJ (cz (i:=2) fo.nd (dX pU pR (ak (kT (ae 2))) (ak au))))))
   (aJ (oA 1))))))
def lW:MS:=
 (aT (bC 2 (aI c7 (aa (mV 0) (aa (mV 1) ai))))
     (aT (bP (bO d4 (m1 (cU 3) (mB 2)) (mC (.int 0))) (aQ (m1 (cU 700) (m1 (ig 3) (mB 2)))) aL)
     (aQ (m2 Co (m1 (iU 48271) (m1 (ig 3) (mB 2))) (mC (.int (26 ^ (11:Int).toNat)))))))
def jx:DF:=aV 3 2 lW
theorem Ab:CD P w K mg base "_law_base" 2 ["_law_script","_law_place"] jx:=
 cO 1 T.Ad ow hr (
  (a9 (cz (i:=2) ow.nd (bV az (jM T) hr (af (aj 0) (af (aj 1) aA))))
   (a9 (cQ (bM jr jn (ak (dM (ae 2))) (ak au)) (aJ (bz (dM (ak (kT (ae 2)))))) bZ)
   (aJ (bz (dX Hm NN (ak (oy (ak (kT (ae 2))))) (ak D0)))))))
def qw:MS:=
 (aT (bC 3 (aI jx (aa (mV 0) (aa (mV 1) ai))))
     (aQ (bW (cH (jI (aa (mV 2) ai)) 1 [3] (gN 0) dC (aI (λτ l=>cb (cV τ l)) (aa (m2 bX (mB 1) (mB 0)) ai))))))
def jy:DF:=aV 4 3 qw
theorem zq:CD P w K mg base "_law_roll" 3 ["_law_script","_law_place","_law_many"] jy:=
 cO 2 T.zt pF hr (
  (a9 (cz (i:=3) pF.nd (bV az (Ab T) hr (af (aj 0) (af (aj 1) aA))))
   (aJ (bz (iF (iV (N:=["_law_k","_law_first"]) (nt:=1) (fr:=[3]) (ah lH) (by decide +kernel) (qb T.mL (af (aj 2) aA)) (λcl C s₀ H₀ ex=>⟨(ck (i:=0) (show (["_law_k","_law_first"]:List Str).Nodup by decide +kernel)),iO,(mf (l8 T) hr (af (dX dP p_add (ae 1) (ae 0)) aA))⟩)))))))
def k6:MS:=
 (aQ (bW (cH (cX (mB 0)) 1 [] (gN 0) (bU (m2 aw (mB 0) (mC (.int 1)))) (m2 aw (mB 0) (mC (.int 0))))))
def fu:DF:=aV 1 1 k6
theorem rY:CD P w K mg base "_law_standing" 1 ["_law_lines"] fu:=
 cO 0 T.si rf hr (
  (aJ (bz (iF (iV (N:=["_law_line"]) (nt:=1) (fr:=[]) (ah iL) (by decide +kernel) (ir (ae 0)) (λcl C s₀ H₀ ex=>⟨(ck (i:=0) (show (["_law_line"]:List Str).Nodup by decide +kernel)),(Dj (eU (ak (bE (ae 0) (ak au))))),(bE (ae 0) (ak au))⟩))))))
def iJ:MS:=
 (aT (bP (bO d4 (m1 (cU 2) (m2 aw (mB 0) (mB 1))) (mC (.int 1))) (aQ (m2 aw (bW (aa (mC (.int 0)) (aa (mC (.int 1)) (aa (mC (.int 9)) (aa (mC (.int 10)) (aa (mC (.int 99999)) (aa (mC (.int 100000)) ai))))))) (m1 (cU 6) (m1 (ig 2) (m2 aw (mB 0) (mB 1)))))) aL)
     (aQ (m1 (cU 100001) (m2 bX (m1 (ig 2) (m2 aw (mB 0) (mB 1))) (m2 GA (mC (.int 1260)) (m2 aw (mB 0) (m2 bX (mB 1) (mC (.int 1)))))))))
def fj:DF:=aV 2 2 iJ
theorem sX:CD P w K mg base "_law_pick_day" 1 ["_law_figs","_law_k"] fj:=
 cO 0 T.sC rG hr (
  (a9 (cQ (bM jr jn (ak (dM (ak (bE (ae 0) (ae 1))))) (ak au)) (aJ (bz (bE (ak (iF (gU (af au (af au (af au (af au (af au (af au aA)))))) (eV (aU (aU (aU (aU (aU (aU dN)))))) (show (6:Nat)<=sizeLine by decide))))) (ak (dM (ak (kT (ak (bE (ae 0) (ae 1)))))))))) bZ)
   (aJ (bz (dM (ak (dX dP p_add (ak (kT (ak (bE (ae 0) (ae 1))))) (ak (dX HS Na (ak au) (ak (bE (ae 0) (ak (dX dP p_add (ae 1) (ak au))))))))))))))
def sN:MS:=
 (aT (bC 2 (m2 nr (m2 bX (mB 1) (m1 (cU 7) (m2 aw (mB 0) (mC (.int 1))))) (mC (.int 3))))
     (aT (bC 3 (bW (aa (mV 1) (aa (mV 2) (aa (mV 2) (aa (mV 2) (aa (mV 1) (aa (mC (.int 0)) (aa (mC (.int 100000)) (aa (aI fj (aa (mV 0) (aa (mC (.int 2)) ai))) ai))))))))))
     (aQ (m2 (CM λa b=>if b < a then b else a) (mC (.int 100000)) (m2 (CM λa b=>if b > a then b else a) (mC (.int 0)) (m2 aw (mB 3) (m1 (cU 8) (m2 aw (mB 0) (mC (.int 0))))))))))
def iP:DF:=aV 4 2 sN
theorem Bz:CD P w K mg base "_law_day" 2 ["_law_figs","_law_last"] iP:=
 cO 1 T.Cv lJ hr (
  (a9 (cz (i:=2) lJ.nd (dX pU pR (ak (dX dP p_add (ae 1) (ak (dM (ak (bE (ae 0) (ak au))))))) (ak au)))
   (a9 (cz (i:=3) lJ.nd (iF (gU (af (aj 1) (af (aj 2) (af (aj 2) (af (aj 2) (af (aj 1) (af au (af au (af (bV az (sX T) hr (af (aj 0) (af au aA))) aA)))))))) (eV (aU (aU (aU (aU (aU (aU (aU (aU dN)))))))) (show (8:Nat)<=sizeLine by decide)))))
   (aJ (bz (Dk (B8 rfl) Hu T.B8 PyProof.Rows.boot_min (ak au) (ak (Dk (B7 rfl) Hu T.B7 PyProof.Rows.boot_max (ak au) (ak (bE (ae 3) (ak (dM (ak (bE (ae 0) (ak au)))))))))))))))
def oB:List (Str×DF):=[("give",fI)]
theorem rL:p6 P w K mg base 2 [("give",.ref (aR mg "judge_give")),("sign",.ref (aR mg "judge_sign")),("pass",.ref (aR mg "judge_pass")),("take",.ref (aR mg "judge_take")),("part",.ref (aR mg "judge_part")),("join",.ref (aR mg "judge_join")),("stop",.ref (aR mg "judge_stop")),("lift",.ref (aR mg "judge_lift")),("paid",.ref (aR mg "judge_paid"))] oB:=
 kc rfl (kd (zh T) (by decide)) (EZ)
def v7:MW:=
 (aX (ay (eW (aI fA (aa (mV 1) ai))))
     (ay (eW (km oB (m2 aw (mB 1) (mC (.int 0))) (aa (mV 0) (aa (mV 1) ai))))))
def jS:DX:=d3 2 v7
theorem we:kD P w K mg base "Store" "judge" 5 2 jS:=by
 have rL:=rL (P:=P) (base:=base) T
 exact t7 (k:=4) T.wb uC (by decide) (λf cdv A outer s H E hr=>
  (aO (bF (q:=false) (gA (bV az (qJ T) hr (af (aj 1) aA))))
   (cD (bF (q:=false) (gA (A8 az T.FH rL hr (ak (bE (ae 1) (ak au))) (af (aj 0) (af (aj 1) aA))))))))
def wU:List (Str×Nat×DX):=[("give",2,gz)]
theorem uR:sE P w K mg base 3 [("give",.ref (aR mg "do_give")),("sign",.ref (aR mg "do_sign")),("pass",.ref (aR mg "do_pass")),("take",.ref (aR mg "do_take")),("part",.ref (aR mg "do_part")),("join",.ref (aR mg "do_join")),("stop",.ref (aR mg "do_stop")),("lift",.ref (aR mg "do_lift")),("paid",.ref (aR mg "do_paid"))] wU:=
 JN rfl (Fn (Fg T) (by decide)) (KR)
def sW:MW:=
 (nB (ue wU (m2 aw (mB 1) (mC (.int 0))) (aa (mV 0) (aa (mV 1) ai))))
def fg:DX:=d3 2 sW
theorem lD:kD P w K mg base "Store" "perform" 4 2 fg:=by
 have uR:=uR (P:=P) (base:=base) T
 exact t7 (k:=3) T.sY rm (by decide) (λf cdv A outer s H E hr=>
  (cD (tN (Oh az T.IJ uR hr (ak (bE (ae 1) (ak au))) (af (aj 0) (af (aj 1) aA))))))
def lu:MS:=
 (aT (bP (bO d4 (m1 b6 (eQ (bH ["Book"] "written" (mB 0)))) (mC (.int 0))) (aQ (mC (.int 0))) aL)
     (aQ (m2 aw (m2 aw (eQ (bH ["Book"] "written" (mB 0))) (mC (.int (-1)))) (mC (.int 1)))))
def cg:DF:=aV 1 1 lu
theorem iS:MethP P w K mg base "Book" "last_day" 1 cg:=by
 exact sh (k:=0) T.tV rA (by decide) (λf cdv A outer s H E hr=>
  (a9 (cQ (bM jr jn (ak (cK bQ eT T.bQ PySem.boot_len (j8 (ak (cy T.dy (ae 0)))))) (ak au)) (aJ (bz au)) bZ)
   (aJ (bz (bE (ak (bE (j8 (ak (cy T.dy (ae 0)))) (ak m9))) (ak au))))))
def fX:MS:=
 (bP (bO ja (mB 1) (cG "Book" "last_day" cg (mV 0) ai)) (bS "DayFalls" g9) aL)
def bN:DF:=aV 2 2 fX
theorem f9:MethP P w K mg base "Book" "check_order_of_days" 2 bN:=by
 exact sh (k:=1) T.jT jP (by decide) (λf cdv A outer s H E hr=>
  (aJ (cQ (bM uw uD (ae 1) (ak (ki az (iS T) hr (aj 0)))) (aJ (cY T.Ck d9 (fh 10000))) bZ)))
def xw:MW:=
 (aX (ay (eW (aI fA (aa (mV 1) ai))))
     (aX (ay (eW (cG "Book" "check_order_of_days" bN (mV 0) (aa (m2 aw (mB 1) (mC (.int 1))) ai))))
     (aX (nB (eS "Store" "judge" 2 jS (bH ["Book"] "latest" (mB 0)) (aa (mV 1) ai)))
     (aX (ay (bP (bO sj (m1 b6 (eQ (bH ["Book"] "written" (mB 0)))) (mC (.int 300))) (bS "Full" g9) aL))
     (aX (nB (eS "Store" "perform" 2 fg (bH ["Book"] "latest" (mB 0)) (aa (mV 1) ai)))
     (aX (xj (bH ["Book"] "written" (mB 0)) (mV 1))
     (ay (aQ (m1 b6 (eQ (bH ["Book"] "written" (mB 0))))))))))))
def eO:DX:=d3 2 xw
theorem oQ:kD P w K mg base "Book" "write" 6 2 eO:=by
 exact t7 (k:=5) T.xT wm (by decide) (λf cdv A outer s H E hr=>
  (aO (bF (q:=false) (gA (bV az (qJ T) hr (af (aj 1) aA))))
   (aO (bF (q:=false) (gA (tR az (f9 T) hr (aj 0) (af (bE (ae 1) (ak au)) aA))))
   (aO (tN (iZ az (we T) hr (cy T.jK (ae 0)) (af (aj 1) aA)))
   (aO (bF (q:=false) (cQ (bM Cc B5 (ak (cK bQ eT T.bQ PySem.boot_len (j8 (ak (cy T.dy (ae 0)))))) (ak (fH T.zU))) (aJ (cY T.yC d9 (fh 10000))) bZ))
   (aO (tN (iZ az (lD T) hr (cy T.jK (ae 0)) (af (aj 1) aA)))
   (aO (N4 (cy T.dy (ae 0)) (aj 1))
   (cD (bF (q:=false) (bz (cK bQ eT T.bQ PySem.boot_len (j8 (ak (cy T.dy (ae 0)))))))))))))))
def yJ:MW:=
 (aX (ay (bC 2 (mC (.bl false))))
     (aX (zb none Ca [] (eS "Book" "write" 2 eO (mV 0) (aa (mV 1) ai)) [("DayFalls",none,(ay (bC 2 (mC (.bl true)))))])
     (ay (ny 2))))
def gu:DX:=d3 3 yJ
theorem yV:Callee P w K mg base (dF P w) "_law_falls" 7 ["_law_book","_law_row"] (jN K mg 2 gu):=
 cW 6 T.xh jW hr (
  (aO (bF (q:=false) (cz (i:=2) jW.nd fz))
   (aO (CQ (F:=[]) (λxe pn σ₀ E px=>(iZ px (oQ T) hr (aj 0) (af (aj 1) aA))) (AW T.sub T.BM (λea=>(cD (bF (q:=false) (cz (i:=2) jW.nd fz)))) C8))
   (cD (bF (q:=false) (oA 2))))))
def rC:MW:=
 (aX (ay (eW (aI iY (aa (mV 1) ai))))
     (aX (de ["Store","Book"] "hands" (mV 0) (dr (m1 dList (mB 1))))
     (aX (de ["Store"] "bills" (mV 0) jC)
     (aX (de ["Store"] "papers" (mV 0) jC)
     (aX (de ["Store"] "roots" (mV 0) jC)
     (de ["Store"] "parcels" (mV 0) jC))))))
def fP:DX:=d3 2 rC
theorem kN:Maker P w K mg base "Store" 6 2 fP:=by
 exact oE (k:=5) T.Js qp (by decide) (λf cdv A outer s H E hr=>
  (aO (bF (q:=false) (gA (bV az (yD T) hr (af (aj 1) aA))))
   (aO (w_fld T.n8 (aj 0) (eR (Ci hZ yy T.hZ PyProof.Rows.boot_list (ae 1))))
   (aO (w_fld T.nh (aj 0) kO)
   (aO (w_fld T.oW (aj 0) kO)
   (aO (w_fld T.yE (aj 0) kO)
   (cD (w_fld T.gW (aj 0) kO))))))))
def qE:MS:=
 (aQ (bW (cH (Dy (eQ (bH ["Book"] "written" (mB 0)))) 2 [0] (gT 2 (dJ (gN 0) (dJ (gN 1) j9))) dC (gp (aa (mV 1) (aa (gj true (mB 0) (bH ["Book"] "struck" (mB 2))) ai))))))
def dw:DF:=aV 1 1 qE
theorem lR:MethP P w K mg base "Book" "rows" 1 dw:=by
 exact sh (k:=0) T.zC zm (by decide) (λf cdv A outer s H E hr=>
  (aJ (bz (iF (iV (N:=["number","row","self"]) (nt:=2) (fr:=[0]) (ah lG) (by decide +kernel) (L1 T.zX (j8 (ak (cy T.dy (ae 0))))) (λcl C s₀ H₀ ex=>⟨(sy (iE (ck (i:=0) (show (["number","row","self"]:List Str).Nodup by decide +kernel)) (iE (ck (i:=1) (show (["number","row","self"]:List Str).Nodup by decide +kernel)) sP))),iO,(t9 (af (aj 1) (af (GQ hr (ae 0) (ak (cy T.k7 (ae 2)))) aA)) (eV (aU (aU dN)) (show (2:Nat)<=sizeLine by decide)))⟩))))))
def Eg:MW:=
 (aX (ay (eW (aI eC (aa (mV 1) ai))))
     (aX (Cs 2 (fW "Store" 2 fP (aa (bH ["Store","Book"] "hands" (mB 0)) ai)))
     (aX (u6 (cX (cG "Book" "rows" dw (mV 0) ai)) (gT 2 (dJ (gN 3) (dJ (gN 4) j9))) (kq (dH (bU (mB 4)) (bO sH (m2 aw (mB 3) (mC (.int 1))) (mB 1))) (nB (eS "Store" "perform" 2 fg (mV 2) (aa (mV 3) ai))) (ay aL)))
     (ay (ny 2)))))
def iC:DX:=d3 5 Eg
theorem oP:kD P w K mg base "Book" "at" 8 2 iC:=by
 exact t7 (k:=7) T.DK j5 (by decide) (λf cdv A outer s H E hr=>
  (aO (bF (q:=false) (gA (bV az (qu T) hr (af (aj 1) aA))))
   (aO (HN (i:=2) j5.nd (pj az (kN T) hr (af (cy T.n8 (ae 0)) aA)))
   (aO (BL az.own (p9 (ki az (lR T) hr (aj 0))) (sy (iE (ck (i:=3) j5.nd) (iE (ck (i:=4) j5.nd) sP))) (cD (Bp (lg (w_and (eU (ae 4)) (r0 (bM xZ yI (ak (bE (ae 3) (ak au))) (ae 1))))) (cD (tN (iZ az (lD T) hr (aj 2) (af (aj 3) aA)))) pX)))
   (cD (bF (q:=false) (oA 2)))))))
def qk:MW:=
 (aX (ay (bC 2 (mC (.bl false))))
     (aX (zb none Ca [] (eS "Book" "at" 2 iC (mV 0) (aa (mV 1) ai)) [("BadForm",none,(ay (bC 2 (mC (.bl true)))))])
     (ay (ny 2))))
def hJ:DX:=d3 3 qk
theorem qm:Callee P w K mg base (dF P w) "_law_at_refused" 9 ["_law_book","_law_day_here"] (jN K mg 2 hJ):=
 cW 8 T.qf gD hr (
  (aO (bF (q:=false) (cz (i:=2) gD.nd fz))
   (aO (CQ (F:=[]) (λxe pn σ₀ E px=>(iZ px (oP T) hr (aj 0) (af (aj 1) aA))) (AW T.sub T.CZ (λea=>(cD (bF (q:=false) (cz (i:=2) gD.nd fz)))) C8))
   (cD (bF (q:=false) (oA 2))))))
def tP:MW:=
 (aX (de ["Book"] "latest" (mV 0) (fW "Store" 2 fP (aa (mV 1) ai)))
     (aX (de ["Store","Book"] "hands" (mV 0) (dr (m1 dList (mB 1))))
     (aX (de ["Book"] "written" (mV 0) sU)
     (de ["Book"] "struck" (mV 0) jC))))
def iR:DX:=d3 2 tP
theorem sd:Maker P w K mg base "Book" 8 2 iR:=by
 exact oE (k:=7) T.KU rk (by decide) (λf cdv A outer s H E hr=>
  (aO (w_fld T.jK (aj 0) (pj az (kN T) hr (af (aj 1) aA)))
   (aO (w_fld T.n8 (aj 0) (eR (Ci hZ yy T.hZ PyProof.Rows.boot_list (ae 1))))
   (aO (w_fld T.dy (aj 0) EJ)
   (cD (w_fld T.k7 (aj 0) kO))))))
def jL:MS:=
 (aT (bC 2 (aI lF (aa (bH ["Book"] "latest" (mB 0)) (aa (m2 aw (eQ (bH ["Book"] "written" (mB 0))) (m2 nr (mB 1) (mC (.int 1)))) ai))))
     (aT (jU 3 (cH (cX (Ec (cG "Book" "rows" dw (mV 0) ai) (wH (mV 1)) wI)) 2 [] (gT 2 (dJ (gN 0) (dJ (gN 1) j9))) (bU (mB 1)) (mV 0)))
     (GN 3 (aQ (m1 Pq (bW (cH (cX (mB 3)) 1 [2,0] (gN 0) dC yo)))))))
def fm:DF:=aV 4 2 jL
theorem ox:MethP P w K mg base "Book" "named_later" 4 fm:=by
 exact sh (k:=3) T.pL gg (by decide) (λf cdv A outer s H E hr=>
  (a9 (cz (i:=2) gg.nd (bV az (zK T) hr (af (cy T.jK (ae 0)) (af (bE (j8 (ak (cy T.dy (ae 0)))) (ak (dX pU pR (ae 1) (ak au)))) aA))))
   (a9 (vo (i:=3) (N:=["row","stands"]) (nt:=2) (fr:=[]) (ah ff) gg.nd (by decide +kernel) (ir (ak (Bg (ak (ki az (lR T) hr (aj 0))) (AG (aj 1)) AD))) (λcl C s₀ H₀ ex=>⟨(sy (iE (ck (i:=0) (show (["row","stands"]:List Str).Nodup by decide +kernel)) (iE (ck (i:=1) (show (["row","stands"]:List Str).Nodup by decide +kernel)) sP))),(Dj (eU (ae 1))),(aj 0)⟩))
   (NW 3 (aJ (bz (cK Cr wL T.Cr PyProof.Rows.boot_any (ak (iF (iV (N:=["row","names","self"]) (nt:=1) (fr:=[2,0]) (ah ff) (by decide +kernel) (ir (ae 3)) (λcl C s₀ H₀ ex=>⟨(ck (i:=0) (show (["row","names","self"]:List Str).Nodup by decide +kernel)),iO,wD⟩)))))))))))
def jc:MS:=
 (aT (eW (aI eC (aa (mV 1) ai)))
     (aT (eW (cG "Book" "check_order_of_days" bN (mV 0) (aa (mV 1) ai)))
     (aT (bP (d5 (bO ja (mB 2) (mC (.int 1))) (bO Ai (mB 2) (m1 b6 (eQ (bH ["Book"] "written" (mB 0)))))) (bS "NoSuch" g9) aL)
     (aT (bP (mT (gj false (mB 2) (bH ["Book"] "struck" (mB 0)))) (bS "Struck" g9) aL)
     (aT (bP (bO mJ (m2 aw (m2 aw (eQ (bH ["Book"] "written" (mB 0))) (m2 nr (mB 2) (mC (.int 1)))) (mC (.int 1))) (mB 1)) (bS "DayOver" g9) aL)
     (bP (bU (cG "Book" "named_later" fm (mV 0) (aa (mV 2) ai))) (bS "NamedLater" g9) aL))))))
def gi:DF:=aV 3 3 jc
theorem om:MethP P w K mg base "Book" "check_strike" 5 gi:=by
 exact sh (k:=4) T.oo nv (by decide) (λf cdv A outer s H E hr=>
  (a9 (gA (bV az (qu T) hr (af (aj 1) aA)))
   (a9 (gA (tR az (f9 T) hr (aj 0) (af (aj 1) aA)))
   (a9 (cQ (lg (w_or (bM uw uD (ae 2) (ak au)) (jD (bM FE F2 (ae 2) (ak (cK bQ eT T.bQ PySem.boot_len (j8 (ak (cy T.dy (ae 0)))))))))) (aJ (cY T.xb d9 (fh 10000))) bZ)
   (a9 (cQ (tq (neg:=false) hr (ae 2) (ak (cy T.k7 (ae 0)))) (aJ (cY T.Gb d9 (fh 10000))) bZ)
   (a9 (cQ (bM rT rK (ak (bE (ak (bE (j8 (ak (cy T.dy (ae 0)))) (ak (dX pU pR (ae 2) (ak au))))) (ak au))) (ae 1)) (aJ (cY T.ED d9 (fh 10000))) bZ)
   (aJ (cQ (eU (ak (tR az (ox T) hr (aj 0) (af (aj 2) aA)))) (aJ (cY T.yA d9 (fh 10000))) bZ))))))))
def v8:MW:=
 (aX (ay (eW (cG "Book" "check_strike" gi (mV 0) (aa (mV 1) (aa (mV 2) ai)))))
     (aX (kH (bH ["Book"] "struck" (mB 0)) (mV 2) (dr (mC (.bl true))))
     (aX (de ["Book"] "latest" (mV 0) (eS "Book" "at" 2 iC (mV 0) (aa (mC (.int 100000)) ai)))
     (ay (aQ (m2 aw (eQ (bH ["Book"] "written" (mB 0))) (m2 nr (mB 2) (mC (.int 1)))))))))
def ik:DX:=d3 3 v8
theorem wg:kD P w K mg base "Book" "strike" 9 3 ik:=by
 exact t7 (k:=8) T.wk u9 (by decide) (λf cdv A outer s H E hr=>
  (aO (bF (q:=false) (gA (tR az (om T) hr (aj 0) (af (aj 1) (af (aj 2) aA)))))
   (aO (sZ hr (cy T.k7 (ae 0)) (aj 2) (eR fz))
   (aO (w_fld T.jK (aj 0) (iZ az (oP T) hr (aj 0) (af (fH T.sf) aA)))
   (cD (bF (q:=false) (bz (bE (j8 (ak (cy T.dy (ae 0)))) (ak (dX pU pR (ae 2) (ak au)))))))))))
def BD:MW:=
 (aX (ay (bC 1 (aI jy (aa (mV 0) (aa (mC (.int 1)) (aa (mC (.int 1)) ai))))))
     (aX (Cs 2 (fW "Book" 2 iR (aa (mV 1) ai)))
     (aX (ay (jU 3 ai))
     (aX (ay (bC 4 (mC (.int 0))))
     (aX (ay (bP (cZ (bU (aI (ba 6) (aa (cG "Book" "last_day" cg (mV 2) ai) (aa (mC (.int 0)) ai))))) (aQ (mC (.bl false))) aL))
     (aX (u6 (jI (aa (m1 (cU 41) (aI c7 (aa (mV 0) (aa (mC (.int 2)) ai)))) ai)) (gN 5) (aX (ay (bC 6 (aI fL (aa (mV 0) (aa (m2 bX (mC (.int 4)) (mB 5)) (aa (mC (.int 6)) ai))))))
     (aX (ay (bC 7 (aI iP (aa (mV 6) (aa (mV 4) ai)))))
     (aX (ay (bC 8 (gp (aa (mC (.str "give")) (aa (mV 7) (aa (aI cV (aa (mV 5) ai)) (aa (mC (.str "p")) (aa (m2 aw (mB 1) (mC (.int 0))) (aa (m2 bX (mC (.int 1)) (mB 5)) (aa (mC (.str "holder")) (aa (m2 aw (mB 1) (mC (.int 0))) (aa (mC (.int 1)) ai))))))))))))
     (aX (kq (dH (bO d4 (m1 (cU 4) (m2 aw (mB 6) (mC (.int 4)))) (mC (.int 3))) (dH (bO nQ (mB 3) (bW ai)) (bU (m2 aw (m2 aw (mB 3) (mC (.int (-1)))) (mC (.int 1)))))) (aX (iI (nO (ba 6) (eS "Book" "strike" 3 ik (mV 2) (aa (mV 4) (aa (m1 b6 (mB 3)) ai))) (aa (m2 aw (m2 aw (mB 3) (mC (.int (-1)))) (mC (.int 0))) ai)) (ay (aQ (mC (.bl false)))) (ay aL))
     (ay (wJ 3 (mC (.int (-1))) (gp (aa (m2 aw (m2 aw (mB 3) (mC (.int (-1)))) (mC (.int 0))) (aa (mC (.bl false)) ai)))))) (kq (bO ja (mB 7) (mB 4)) (iI (iq 2 gu (aa (mV 2) (aa (mV 8) ai))) (ay (aQ (mC (.bl false)))) (ay aL)) (aX (ay (ju 3 (gp (aa (mV 8) (aa (mC (.bl true)) ai)))))
     (aX (ay (bC 4 (mV 7)))
     (iI (nO (ba 6) (eS "Book" "write" 2 eO (mV 2) (aa (mV 8) ai)) (aa (m1 b6 (mB 3)) ai)) (ay (aQ (mC (.bl false)))) (ay aL))))))
     (ay (bP (d5 (cZ (bU (aI (ba 6) (aa (cG "Book" "last_day" cg (mV 2) ai) (aa (mV 4) ai))))) (cZ (bU (mU (ba 6) (aa (cG "Book" "rows" dw (mV 2) ai) (aa (mB 3) ai)))))) (aQ (mC (.bl false))) aL)))))))
     (aX (ay (bC 9 (aI c7 (aa (mV 0) (aa (mC (.int 3)) ai)))))
     (aX (iI (iq 2 hJ (aa (mV 2) (aa (m2 aw (bW (aa (mC (.int (-1))) (aa (mC (.int 100001)) (aa (m2 nr (mC (.int (-1))) (m1 (cU 1000) (mB 9))) (aa (m2 bX (mC (.int 100001)) (m1 (cU 1000) (mB 9))) (aa (mC (.int (10 ^ (30:Int).toNat))) ai)))))) (m1 (cU 5) (mB 9))) ai))) (ay (aQ (mC (.bl false)))) (ay aL))
     (uY 3 (aX (ay (bC 10 (m1 rJ (bW (cH (cX (aI fu (aa (mV 3) ai))) 1 [] (gN 0) dC (m2 bX (m2 aw (mB 0) (mC (.int 2))) (mC (.str "/1"))))))))
     (FL (nO (ba 6) (nO kA (eS "Book" "at" 2 iC (mV 2) (aa (mV 4) ai)) ai) (aa (mV 10) ai)))))))))))))
omit T
theorem IS (LT:∀ (ns:List Int),ns.length<=63->∀ r:Rw,d3 11 BD (λ_=>none) [.seq (ns.map .int)] r->∃ τ,r = .ok (.bl true) τ) {f:Addr} {fd:FuncData} (F:qI K "law" "law" tp f fd) (T:Txt w K mg):dG P w K mg base tO 10 f fd ["_law_script"] (oX K):=by
 have df:=df (P:=P) (base:=base) T 6
 exact Iy (k:=9) F f7 (by decide) (λcdv A outer s H E hr=>
  (aO (bF (q:=false) (cz (i:=1) f7.nd (bV az (zq T) hr (af (aj 0) (af au (af au aA))))))
   (aO (HN (i:=2) f7.nd (pj az (sd T) hr (af (aj 1) aA)))
   (aO (bF (q:=false) (HA (i:=3) f7.nd (gU aA (eV dN (show (0:Nat)<=sizeLine by decide)))))
   (aO (bF (q:=false) (cz (i:=4) f7.nd au))
   (aO (bF (q:=false) (cQ (jA (eU (ak (bV az df hr (af (ki az (iS T) hr (aj 2)) (af au aA)))))) (aJ (bz fz)) bZ))
   (aO (BL az.own (qb T.mL (af (dM (ak (bV az (jM T) hr (af (aj 0) (af au aA))))) aA)) (ck (i:=5) f7.nd) (aO (bF (q:=false) (cz (i:=6) f7.nd (bV az (uE T) hr (af (aj 0) (af (dX dP p_add (ak au) (ae 5)) (af au aA))))))
   (aO (bF (q:=false) (cz (i:=7) f7.nd (bV az (Bz T) hr (af (aj 6) (af (aj 4) aA)))))
   (aO (bF (q:=false) (cz (i:=8) f7.nd (t9 (af fG (af (aj 7) (af (bV az (l8 T) hr (af (aj 5) aA)) (af fG (af (bE (ae 1) (ak au)) (af (dX dP p_add (ak au) (ae 5)) (af fG (af (bE (ae 1) (ak au)) (af au aA))))))))) (eV (aU (aU (aU (aU (aU (aU (aU (aU (aU dN))))))))) (show (9:Nat)<=sizeLine by decide)))))
   (aO (Bp (lg (w_and (bM jr jn (ak (dM (ak (bE (ae 6) (ak au))))) (ak au)) (w_and (bM (Nm hr) NX (ae 3) (ak (iF (gU aA (eV dN (show (0:Nat)<=sizeLine by decide)))))) (r0 (eU (ak (bE (ak (bE (ae 3) (ak m9))) (ak au)))))))) (aO (rW (wM az df hr (iZ az (wg T) hr (aj 2) (af (aj 4) (af (cK bQ eT T.bQ PySem.boot_len (ae 3)) aA))) (af (bE (ak (bE (ae 3) (ak m9))) (ak au)) aA)) (cD (bF (q:=false) (bz fz))) pX)
   (cD (bF (q:=false) (KI (s:=3) (t9 (af (bE (ak (bE (ae 3) (ak m9))) (ak au)) (af fz aA)) (eV (aU (aU dN)) (show (2:Nat)<=sizeLine by decide))) m9)))) (cD (Bp (bM uw uD (ae 7) (ae 4)) (cD (rW (x_call az (yV T) hr (af (aj 2) (af (aj 8) aA))) (cD (bF (q:=false) (bz fz))) pX)) (aO (bF (q:=false) (Cf (i:=3) (t9 (af (aj 8) (af fz aA)) (eV (aU (aU dN)) (show (2:Nat)<=sizeLine by decide)))))
   (aO (bF (q:=false) (cz (i:=4) f7.nd (aj 7)))
   (cD (rW (wM az df hr (iZ az (oQ T) hr (aj 2) (af (aj 8) aA)) (af (cK bQ eT T.bQ PySem.boot_len (ae 3)) aA)) (cD (bF (q:=false) (bz fz))) pX)))))))
   (cD (bF (q:=false) (cQ (lg (w_or (jA (eU (ak (bV az df hr (af (ki az (iS T) hr (aj 2)) (af (aj 4) aA)))))) (jD (jA (eU (ak (JH az df hr (AN (ak (ki az (lR T) hr (aj 2))) (AN (ae 3) LY))))))))) (aJ (bz fz)) bZ))))))))
   (aO (bF (q:=false) (cz (i:=9) f7.nd (bV az (jM T) hr (af (aj 0) (af au aA)))))
   (aO (rW (x_call az (qm T) hr (af (aj 2) (af (bE (ak (iF (gU (af m9 (af au (af (dX pU pR (ak m9) (ak (dM (ae 9)))) (af (dX dP p_add (ak au) (ak (dM (ae 9)))) (af D0 aA))))) (eV (aU (aU (aU (aU (aU dN))))) (show (5:Nat)<=sizeLine by decide))))) (ak (dM (ae 9)))) aA))) (cD (bF (q:=false) (bz fz))) pX)
   (Hq 3 (aO (bF (q:=false) (cz (i:=10) f7.nd (cK FF Oa T.rR PyProof.Rows.boot_sorted (ak (iF (iV (N:=["_law_row"]) (nt:=1) (fr:=[]) (ah tp) (by decide +kernel) (ir (ak (bV az (rY T) hr (af (aj 3) aA)))) (λcl C s₀ H₀ ex=>⟨(ck (i:=0) (show (["_law_row"]:List Str).Nodup by decide +kernel)),iO,(dX dP p_add (ak (bE (ae 0) (ak au))) (ak fG))⟩)))))))
   (cD (Od (wM az df hr (wM az (w9 T) hr (iZ az (oP T) hr (aj 2) (af (aj 4) aA)) aA) (af (aj 10) aA))))))))))))))) (λns hl=>LT ns hl)
end
end My
end
section
namespace L2
theorem Ev.bG (c:List (Option Cell)) (t:cw) (i:Nat):(⟨c,t⟩:Ev)[i]? = c[i]?:=rfl
theorem Ev.set_mk (c:List (Option Cell)) (t:cw) (i:Nat) (x:Option Cell):(⟨c,t⟩:Ev).set i x = ⟨c.set i x,t⟩:=rfl
end L2
namespace My
open PySem L2
def ku (c:Nat):Bool:=decide (97<=c/\c<=122)
def cA (l:List Nat):Bool:=decide (1<=l.length/\l.length<=12) && l.all ku
theorem KW (a b:Nat):vB [a] [b] = decide (a < b):=by
 unfold vB
 rw [PySem.StrLaws.lt_cons_cons,PySem.StrLaws.lt_nil_nil]
 simp
theorem O2:Cd ("a":Str) = [97]:=by decide +kernel
theorem OU:Cd ("z":Str) = [122]:=by decide +kernel
theorem IB (c:Nat):dq τ [.str (ao [c])] = .ok (.bl (ku c)):=by
 have e:dq τ [.str (ao [c])] = jX ((if (!vB (Cd (ao [c])) (Cd ("a":Str))) = true then (Rs.ok (Dv.bl (!vB (Cd ("z":Str)) (Cd (ao [c]))))) else .ok (.bl false)).bind λd=>Rs.ok (Fl.rt d)):=rfl
 rw [e,O2,OU,iA,KW,KW]
 by_cases h:c < 97
 ·have e2:ku c = false:=by unfold ku; simp; omega
  rw [e2]; simp [h,jX,Rs.bind]
 ·have e2:ku c = !decide (122 < c):=by
   unfold ku
   rw [Bool.eq_iff_iff]
   simp
   omega
  rw [e2]; simp [h,jX,Rs.bind]
theorem uI {α:Type} (f:α->Bool) (l:List α):j2 (l.map λa=>Dv.bl (f a)) = some (l.map f):=by
 induction l with
 | nil=>rfl
 | cons a r ih=>simp [j2,ih]
theorem MQ (l:List Nat):jG τ [.str (ao l)] = .ok (.bl (cA l)):=by
 have e:jG τ [.str (ao l)] = jX (Rs.bind (Rs.bind (if (decide (((ao l).length:Int) < 1)) = true then Rs.ok true else .ok (decide ((12:Int) < ((ao l).length:Int)))) λk=>if k = true then .ok (.rt (.bl false)) else .ok (.nx (⟨[some (.v (.str (ao l)))],τ⟩:Ev))) (xu (aQ (m1 lT (bW (cH (cX (mB 0)) 1 [] (gN 0) dC (aI (λτ l=>cb (dq τ l)) (aa (mV 0) ai)))))))):=rfl
 rw [e,fw]
 have body:aQ (m1 lT (bW (cH (cX (mB 0)) 1 [] (gN 0) dC (aI (λτ l=>cb (dq τ l)) (aa (mV 0) ai))))) (⟨[some (.v (.str (ao l)))],τ⟩:Ev) = .ok (.rt (.bl (l.all ku))):=by
  show (((cb (cE (gN 0) dC (aI (λτ l=>cb (dq τ l)) (aa (mV 0) ai)) ((Cd (ao l)).map λc=>.str (ao [c])) (⟨[none],τ⟩:Ev))).bind λl=>.ok (.lst l)).bind lT).bind (λd=>Rs.ok (Fl.rt d)) = _
  rw [iA,jq (cap:=[]) (λd=>match d with | .str z=>.bl (ku ((Cd z).getD 0 0)) | _=>.non) _ _ (λd hd=>?_)]
  ·show ((lT (.lst (((l.map λc=>Dv.str (ao [c])).map _)))).bind (λd=>Rs.ok (Fl.rt d))) = _
   rw [List.map_map]
   show ((ug (λbs=>bs.all id) (.lst (l.map λc=>Dv.bl (ku c)))).bind (λd=>Rs.ok (Fl.rt d))) = _
   unfold ug
   dsimp only
   rw [uI]
   simp [Rs.bind,List.all_map]
  ·obtain ⟨c,_,rfl⟩:=List.mem_map.mp hd
   show cb (dq τ [.str (ao [c])]) = _
   rw [IB]
   rfl
 by_cases h1:l.length < 1
 ·have e2:cA l = false:=by unfold cA; simp; omega
  have h1':((l.length:Nat):Int) < 1:=by omega
  rw [e2]
  simp [h1',Rs.bind,xu,jX]
 ·by_cases h2:12 < l.length
  ·have e2:cA l = false:=by unfold cA; simp; omega
   have h1':¬((l.length:Nat):Int) < 1:=by omega
   have h2':(12:Int) < ((l.length:Nat):Int):=by omega
   rw [e2]
   simp [h1',h2',Rs.bind,xu,jX]
  ·have e2:cA l = l.all ku:=by
    unfold cA
    have:1<=l.length/\l.length<=12:=by omega
    simp [this]
   have h1':¬((l.length:Nat):Int) < 1:=by omega
   have h2':¬(12:Int) < ((l.length:Nat):Int):=by omega
   rw [e2]
   simp only [h1',h2',decide_false,Bool.false_eq_true,if_false,Rs.aq,xu]
   rw [body]
   rfl
theorem rM (i a b:Int):eG τ [.int i,.int a,.int b] = .ok (.bl (decide (a<=i/\i<=b))):=by
 by_cases h:a<=i <;> simp [eG,mv,aV,dQ,aE,aT,dk,bP,aQ,aL,mB,mC,m1,bU,oK,d5,cZ,cJ,gk,Rs.aq,cF,Dv.kind,gG,Ev.bG,Dv.iu,sH,h]
theorem Cu (i:Int):gX τ [.int i] = .ok (.bl (decide (0<=i/\i<=100000))):=by
 simp [gX,tY,aV,dQ,aE,aQ,mV,mC,ai,aa,aI,Rs.aq,Ev.bG,rM]
theorem K3 (i:Int):iQ τ [.int i] = .ok (.bl (decide (1<=i/\i<=1000000000))):=by
 simp [iQ,sA,aV,dQ,aE,aQ,mV,mC,ai,aa,aI,Rs.aq,Ev.bG,rM]
theorem F5 (i:Int):gB τ [.int i] = .ok (.bl (decide (1<=i/\i<=3))):=by
 simp [gB,oM,aV,dQ,aE,aQ,mV,mC,ai,aa,aI,Rs.aq,Ev.bG,rM]
theorem Du (l:List Nat):du τ [.str (ao l)] = .ok (.bl (cA l)):=by
 simp [du,qQ,aV,dQ,aE,aQ,mV,mB,m1,ai,aa,aI,rn,cJ,Rs.aq,cF,Dv.kind,gG,Ev.bG,Dv.iu,MQ]
theorem Mg (k:Str) (h:k = "named"\/k = "order"\/k = "holder"):jz τ [.str k] = .ok (.bl true):=by
 rcases h with rfl | rfl | rfl <;> kernel_rfl
def r6 (l:List Nat) (k:Nat):List Nat:=l++[47,48+k]
theorem any_eq (acc:List Str) (x:Str):(acc.any (·== x)) = decide (x∈acc):=by
 rw [Bool.eq_iff_iff]
 simp
theorem va:∀ (l acc:List Str),(acc++l).Nodup->l.foldl iX acc = acc++l
 | [],acc,_=>by simp
 | x::r,acc,h=>by
   have hx:x∉acc:=λz=>by
    rw [List.nodup_append] at h
    exact h.2.2 x z x (by simp) rfl
   have e:iX acc x = acc++[x]:=by
    unfold iX
    rw [any_eq,if_neg (by simpa using hx)]
   rw [List.foldl_cons,e,va r (acc++[x]) (by simpa using h)]
   simp
theorem BZ (h:l.Nodup):dR l = l:=by
 have:=va l [] (by simpa using h)
 simpa [dR] using this
theorem strs_map (l:List (List Nat)):strsOf (l.map λn=>Dv.str (ao n)) = some (l.map ao):=by
 induction l with
 | nil=>rfl
 | cons a r ih=>simp [strsOf,ih]
theorem Bu {l:List (List Nat)} (h:l.Nodup):(l.map ao).Nodup:=List.pairwise_map.mpr (h.imp λe z=>e (nk.mp z))
theorem FX {l:List (List Nat)} {d:Dv} (hd:d = .lst (l.map λn=>Dv.str (ao n))\/d = .tup (l.map λn=>Dv.str (ao n))) (hg:∀ n∈l,cA n = true) (hn:l.Nodup) (hl:l.length<=1000):dW τ [d] = .ok (.bl true):=by
 have items:mj d = .ok (l.map λn=>Dv.str (ao n)):=by rcases hd with rfl | rfl <;> rfl
 have sq:jB d = some (l.map λn=>Dv.str (ao n)):=by rcases hd with rfl | rfl <;> rfl
 have ln:b6 d = .ok (.int l.length):=by rcases hd with rfl | rfl <;> simp [b6]
 have comp:cH (cX (mB 0)) 1 [] (gN 0) dC (aI (λτ l=>cb (du τ l)) (aa (mV 0) ai)) (⟨[some (.v d)],τ⟩:Ev) = .ok (l.map λ_=>Dv.bl true):=by
  show ((mj d).bind λl=>cb (cE (gN 0) dC (aI (λτ l=>cb (du τ l)) (aa (mV 0) ai)) l (⟨[none],τ⟩:Ev))) = _
  rw [items]
  show cb (cE (gN 0) dC (aI (λτ l=>cb (du τ l)) (aa (mV 0) ai)) (l.map λn=>Dv.str (ao n)) (⟨[none],τ⟩:Ev)) = _
  rw [jq (cap:=[]) (λ_=>.bl true) _ _ (λd hd=>?_)]
  ·simp [cb]
  ·obtain ⟨n,hn,rfl⟩:=List.mem_map.mp hd
   show cb (du τ [.str (ao n)]) = _
   rw [Du,hg n hn]
   rfl
 have al:lT (.lst (l.map λ_=>Dv.bl true)) = .ok (.bl true):=by
  show (match j2 (l.map λ_=>Dv.bl true) with | some bs=>Rs.ok (Dv.bl (bs.all id)) | none=>.bad) = _
  rw [uI (λ_=>true)]
  simp
 have st:mn d = .ok (.int l.length):=by
  unfold mn
  rw [sq]
  dsimp only
  rw [strs_map]
  dsimp only
  rw [if_pos (by rw [List.length_map]; unfold scanBound; omega),BZ (Bu hn),List.length_map]
 simp [dW,h8,aV,dQ,aE,aT,dk,bP,aQ,aL,mB,mC,m1,m2,bW,bU,cZ,gk,Rs.aq,Ev.bG,comp,al,st,ln,d4,ou]
end My
end
section
namespace My
open PySem L2
theorem cM:10000<=sizeLine:=by decide
inductive za:Str->Dv->Prop where
 | day {i:Int} (h:0<=i/\i<=100000):za "day" (.int i)
 | bb {i:Int} (h:1<=i/\i<=1000000000):za "tons" (.int i)
 | l9 {i:Int} (h:1<=i/\i<=3):za "copies" (.int i)
 | kind {k:Str} (h:k = "named"\/k = "order"\/k = "holder"):za "kind" (.str k)
 | name {n:List Nat} (h:cA n = true):za "name" (.str (ao n))
theorem CV (h:za s v):∃ f,gK.lookup s = some f/\f τ [v] = .ok (.bl true):=by
 cases h with
 | day h=>exact ⟨gX,by kernel_rfl,by rw [Cu]; simp [h]⟩
 | bb h=>exact ⟨iQ,by kernel_rfl,by rw [K3]; simp [h]⟩
 | l9 h=>exact ⟨gB,by kernel_rfl,by rw [F5]; simp [h]⟩
 | kind h=>exact ⟨jz,by kernel_rfl,Mg _ h⟩
 | name h=>exact ⟨du,by kernel_rfl,by rw [Du,h]⟩
inductive Fits:List Str->List Dv->Prop where
 | nil:Fits [] []
 | cons {s:Str} {v:Dv} {ss:List Str} {vs:List Dv} (h:za s v) (r:Fits ss vs):Fits (s::ss) (v::vs)
theorem Fits.len (h:Fits ss vs):vs.length = ss.length:=by
 induction h with
 | nil=>rfl
 | cons _ _ ih=>simp [ih]
abbrev Cp:Dv->Ev->Rs Ev:=gT 2 (dJ (gN 2) (dJ (gN 3) j9))
abbrev p5:MS:=bP (cZ (bU (km gK (mB 2) (aa (mV 3) ai)))) (bS "BadForm" (pb [g9,(uX 100000 (mV 2)),g9])) aL
theorem FT (h:Fits ss vs):∀ (a b x y:Option Cell),∃ x' y',eu Cp p5 (nG (ss.map .str) vs) (⟨[a,b,x,y],τ⟩:Ev) = .ok (.nx (⟨[a,b,x',y'],τ⟩:Ev)):=by
 induction h with
 | nil=>intro a b x y; exact ⟨x,y,rfl⟩
 | @cons s v ss vs h r ih=>
   intro a b x y
   obtain ⟨f,h1,h2⟩:=CV (τ:=τ) h
   obtain ⟨x',y',e⟩:=ih a b (some (.v (.str s))) (some (.v v))
   refine ⟨x',y',?_⟩
   have hb:p5 (⟨[a,b,some (.v (.str s)),some (.v v)],τ⟩:Ev) = .ok (.nx (⟨[a,b,some (.v (.str s)),some (.v v)],τ⟩:Ev)):=by
    have hc:km gK (mB 2) (aa (mV 3) ai) (⟨[a,b,some (.v (.str s)),some (.v v)],τ⟩:Ev) = .ok (.bl true):=by
     show (match gK.lookup s with | some f=>f τ [v] | none=>.bad) = _
     rw [h1]
     exact h2
    show ((((km gK (mB 2) (aa (mV 3) ai) (⟨[a,b,some (.v (.str s)),some (.v v)],τ⟩:Ev)).bind gk).bind λk=>.ok (!k)).bind λk=>if k = true then _ else _) = _
    rw [hc]
    rfl
   show ((p5 (⟨[a,b,some (.v (.str s)),some (.v v)],τ⟩:Ev)).bind (nE (eu Cp p5 (nG (ss.map .str) vs)))) = _
   rw [hb]
   exact e
theorem Pr (x:Dv) (vs:List Dv):tu (.tup (x::vs)) (some 1) none = .ok (.tup vs):=by
 have h1:HT.bD (x::vs).length 0 (some 1) = 1:=by
  unfold HT.bD
  simp
 have h2:HT.bD (x::vs).length (x::vs).length none = vs.length+1:=by show (x::vs).length = _; simp
 unfold tu
 dsimp only
 rw [if_neg (by rw [h1]; intro z; exact absurd z.1 (by decide))]
 unfold pB
 rw [h1,h2]
 simp
theorem JJ {deed:Str} {ss:List Str} (h:ky.lookup deed = some (.tup (ss.map .str))):gY τ [.str deed] = .ok (.tup (ss.map .str)):=by
 simp [gY,mS,aV,dQ,aE,aT,dk,bP,aQ,bS,aL,mB,m1,mT,bU,d5,cZ,cJ,gk,Rs.aq,cF,Dv.kind,gG,Ev.bG,Dv.iu,BQ,BG,h]
theorem JP (hd:ky.lookup deed = some (.tup (ss.map .str))) (h:Fits ss vs):fA τ [.tup (.str deed::vs)] = .ok .non:=by
 have e1:=JJ (τ:=τ) hd
 have hl:=h.len
 have e2:=Pr (.str deed) vs
 obtain ⟨x,y,e3⟩:=FT (τ:=τ) h (some (.v (.tup (.str deed::vs)))) (some (.v (.tup (ss.map .str)))) none none
 have z:¬((vs.length:Nat):Int)+1 = 0:=by omega
 have lp:nV (Gf (mV 1) (Ec (mB 0) (wH (mC (.int 1))) wI)) Cp p5 (⟨[some (.v (.tup (.str deed::vs))),some (.v (.tup (ss.map .str))),none,none],τ⟩:Ev) = .ok (.nx (⟨[some (.v (.tup (.str deed::vs))),some (.v (.tup (ss.map .str))),x,y],τ⟩:Ev)):=by
  show ((((tu (.tup (.str deed::vs)) (some 1) none).bind λy=>match jB (Dv.tup (ss.map .str)),jB y with | some l,some l'=>Rs.ok (nG l l') | _,_=>.bad)).bind λl=>eu Cp p5 l (⟨[some (.v (.tup (.str deed::vs))),some (.v (.tup (ss.map .str))),none,none],τ⟩:Ev)) = _
  rw [e2]
  exact e3
 have z2:¬((ss.length:Nat):Int)+1 = 0:=by omega
 simp only [fA,qZ]
 simp [aV,mq,aE,aT,dk,bC,bP,bS,aL,mB,mC,m1,m2,ai,aa,aI,bO,bU,d5,cZ,cJ,gk,Rs.aq,cF,Dv.kind,gG,Ev.bG,Ev.set_mk,Dv.iu,b6,d4,ou,z,z2,aw,fC,kE,e1,mJ,bX,hl,lp]
def eY (ns:List Int) (k:Nat):Int:=ns.getD k 0
theorem y6 (ns:List Int) (k:Nat):c7 τ [.seq (ns.map .int),.int k] = .ok (.int (eY ns k)):=by
 by_cases h:k < ns.length
 ·have e:fC (ns.map Dv.int) (k:Int) = some (.int (eY ns k)):=mw (by simp [eY,List.getD,h])
  simp [c7,oS,aV,dQ,aE,aT,oJ,bP,aQ,aL,mB,m1,m2,bO,cJ,Rs.aq,Ev.bG,b6,ja,h,aw,e]
 ·have e:eY ns k = 0:=by simp [eY,List.getD,h]
  simp [c7,oS,aV,dQ,aE,aT,dk,bP,aQ,aL,mB,mC,m1,m2,bO,cJ,Rs.aq,Ev.bG,b6,ja,h,e]
def fO:Nat->Int->List Nat->List Nat
 | 0,_,out=>out
 | f+1,left,out=>if left < 0 then out else fO f (left / 26 - 1) ((97+ (left % 26).toNat)::out)
def cj (n:Int):List Nat:=fO 12 n []
theorem KS:Cd ("abcdefghijklmnopqrstuvwxyz":Str) = (List.range 26).map (97+ ·):=by decide +kernel
theorem MH (h0:0<=j) (h1:j < 26):aw (.str "abcdefghijklmnopqrstuvwxyz") (.int j) = .ok (.str (ao [97+j.toNat])):=by
 obtain ⟨n,rfl⟩:=Int.eq_ofNat_of_zero_le h0
 have hn:n < 26:=by omega
 have e:fC (Cd ("abcdefghijklmnopqrstuvwxyz":Str)) (n:Int) = some (97+n):=by
  rw [KS]
  exact mw (by rw [List.getElem?_map,List.getElem?_range hn]; rfl)
 unfold aw
 dsimp only
 rw [e]
 rfl
abbrev wT:MT:=dH (bO sj (mB 2) (mC (.int 0))) (bO ja (m1 b6 (mB 1)) (mC (.int 12)))
abbrev wB:MS:=aT (bC 1 (m2 bX (m2 aw (mC (.str "abcdefghijklmnopqrstuvwxyz")) (m1 (cU 26) (mB 2))) (mB 1))) (bC 2 (m2 nr (m1 (ig 26) (mB 2)) (mC (.int 1))))
theorem GX (a:Option Cell):∀ (k:Nat) (left:Int) (out:List Nat),out.length+k = 12->∃ l',fK wT wB (k+1) (⟨[a,some (.v (.str (ao out))),some (.v (.int left))],τ⟩:Ev) = .ok (.nx (⟨[a,some (.v (.str (ao (fO k left out)))),some (.v (.int l'))],τ⟩:Ev)):=by
 intro k
 induction k with
 | zero=>
   intro left out hl
   refine ⟨left,?_⟩
   have h:¬((ao out).length < 12):=by rw [fw]; omega
   have h':¬(((ao out).length:Nat):Int) < 12:=by omega
   unfold fK
   by_cases h0:0<=left
   ·simp [aT,bC,mB,mC,m1,m2,bO,dH,cJ,Rs.aq,dL,mE,Ev.bG,Ev.set_mk,h0,b6,ja,h,h',fO]
   ·simp [aT,bC,mB,mC,m1,m2,bO,dH,cJ,Rs.aq,dL,mE,Ev.bG,Ev.set_mk,h0,b6,ja,h,h',fO]
 | succ k ih=>
   intro left out hl
   by_cases h0:0<=left
   ·have hn:(ao out).length < 12:=by rw [fw]; omega
    have hn':(((ao out).length:Nat):Int) < 12:=by omega
    have e1:=MH (j:=left % 26) (Int.emod_nonneg _ (by decide)) (Int.emod_lt_of_pos _ (by decide))
    obtain ⟨l',e2⟩:=ih (left / 26 - 1) ((97+ (left % 26).toNat)::out) (by simp only [List.length_cons]; omega)
    refine ⟨l',?_⟩
    have ea:bX (.str (ao [97+ (left % 26).toNat])) (.str (ao out)) = .ok (.str (ao ((97+ (left % 26).toNat)::out))):=by
     show (if (ao [97+ (left % 26).toNat]).length+ (ao out).length<=sizeLine then Rs.ok (Dv.str (ao [97+ (left % 26).toNat]++ao out)) else .bad) = _
     rw [if_pos (by show 1+out.length<=sizeLine; have:=cM; omega),kY]
     rfl
    have eb:fO (k+1) left out = fO k (left / 26 - 1) ((97+ (left % 26).toNat)::out):=by
     show (if left < 0 then out else _) = _
     rw [if_neg (by omega)]
    rw [eb,←e2]
    conv=>lhs; unfold fK
    have ew:wB (⟨[a,some (.v (.str (ao out))),some (.v (.int left))],τ⟩:Ev) = .ok (.nx (⟨[a,some (.v (.str (ao ((97+ (left % 26).toNat)::out)))),some (.v (.int (left / 26 - 1)))],τ⟩:Ev)):=by
     simp [aT,dk,bC,mB,mC,m1,m2,Rs.aq,dL,mE,Ev.bG,Ev.set_mk,e1,ea]
    have et:wT (⟨[a,some (.v (.str (ao out))),some (.v (.int left))],τ⟩:Ev) = .ok true:=by
     simp [mB,mC,m1,m2,bO,dH,cJ,Rs.aq,mE,Ev.bG,h0,b6,ja,hn,hn']
    rw [et,Rs.aq,if_pos rfl,ew]
    rfl
   ·refine ⟨left,?_⟩
    have eb:fO (k+1) left out = out:=by
     show (if left < 0 then out else _) = _
     rw [if_pos (by omega)]
    rw [eb]
    unfold fK
    have et:wT (⟨[a,some (.v (.str (ao out))),some (.v (.int left))],τ⟩:Ev) = .ok false:=by
     simp [mB,mC,m1,m2,bO,dH,cJ,Rs.aq,mE,Ev.bG,h0]
    rw [et]
    rfl
theorem vq (n:Int):cV τ [.int n] = .ok (.str (ao (cj n))):=by
 obtain ⟨l',e⟩:=GX (τ:=τ) (some (.v (.int n))) 12 n [] rfl
 have e0:("":Str) = ao []:=by decide +kernel
 simp only [cV,mQ]
 have e:fK wT wB 13 (⟨[some (.v (.int n)),some (.v (.str "")),some (.v (.int n))],τ⟩:Ev) = .ok (.nx (⟨[some (.v (.int n)),some (.v (.str (ao (fO 12 n [])))),some (.v (.int l'))],τ⟩:Ev)):=by rw [e0]; exact e
 simp [aV,aE,aT,dk,bC,mV,mC,Rs.aq,Ev.bG,Ev.set_mk]
 show jX ((fK wT wB 13 (⟨[some (.v (.int n)),some (.v (.str "")),some (.v (.int n))],τ⟩:Ev)).bind _) = _
 rw [e]
 rfl
theorem AQ:∀ (k:Nat) (left:Int) (out:List Nat),(∀ c∈out,97<=c/\c<=122)->(fO k left out).length<=k+out.length/\out.length<=(fO k left out).length/\∀ c∈fO k left out,97<=c/\c<=122
 | 0,_,out,h=>⟨by simp [fO],by simp [fO],h⟩
 | k+1,left,out,h=>by
   show (if left < 0 then out else _).length<=_/\_<=(if left < 0 then out else _).length/\∀ c∈(if left < 0 then out else _),_
   split
   ·exact ⟨by omega,by omega,h⟩
   ·have hb:(97+ (left % 26).toNat)<=122:=by
     have h1:=Int.emod_nonneg left (b:=26) (by decide)
     have h2:=Int.emod_lt_of_pos left (b:=26) (by decide)
     omega
    obtain ⟨i1,i2,i3⟩:=AQ k (left / 26 - 1) ((97+ (left % 26).toNat)::out) (λc hc=>by
     rcases List.mem_cons.mp hc with e | e
     ·omega
     ·exact h c e)
    simp only [List.length_cons] at i1 i2
    exact ⟨by omega,by omega,i3⟩
theorem iy (h:0<=n):cA (cj n) = true:=by
 have e:cj n = fO 11 (n / 26 - 1) [97+ (n % 26).toNat]:=by
  show (if n < 0 then [] else _) = _
  rw [if_neg (by omega)]
 have hb:(97+ (n % 26).toNat)<=122:=by
  have h1:=Int.emod_nonneg n (b:=26) (by decide)
  have h2:=Int.emod_lt_of_pos n (b:=26) (by decide)
  omega
 obtain ⟨i1,i2,i3⟩:=AQ 11 (n / 26 - 1) [97+ (n % 26).toNat] (λc hc=>by rw [List.mem_singleton.mp hc]; omega)
 rw [e]
 unfold cA
 rw [Bool.and_eq_true,List.all_eq_true]
 simp only [List.length_cons,List.length_nil] at i1 i2
 exact ⟨decide_eq_true ⟨by omega,by omega⟩,λc hc=>decide_eq_true (i3 c hc)⟩
def Gh (acc:Int) (l:List Nat):Int:=l.foldl (λ(acc:Int) (c:Nat)=>(acc+1) * 26+ (((c:Nat):Int) - 97)) acc
theorem rl:∀ (f:Nat) (left:Int) (out:List Nat),-1<=left->left+1 < 26 ^ f->Gh (-1) (fO f left out) = Gh left out
 | 0,left,out,h0,h1=>by
   have e:left = -1:=by
    have:(26:Int) ^ 0 = 1:=rfl
    omega
   subst e; rfl
 | f+1,left,out,h0,h1=>by
   unfold fO
   split
   ·rename_i h
    have e:left = -1:=by omega
    subst e; rfl
   ·rename_i h
    have hp:(26:Int) ^ (f+1) = 26 * 26 ^ f:=by rw [Int.pow_succ,Int.mul_comm]
    have h2:left / 26 - 1+1 < 26 ^ f:=by
     rw [hp] at h1
     generalize (26:Int) ^ f = p at h1 ⊢
     omega
    rw [rl f (left / 26 - 1) ((97+ (left % 26).toNat)::out) (by omega) h2]
    show Gh ((left / 26 - 1+1) * 26+ (((97+ (left % 26).toNat:Nat):Int) - 97)) out = _
    have e:(left / 26 - 1+1) * 26+ (((97+ (left % 26).toNat:Nat):Int) - 97) = left:=by omega
    rw [e]
theorem FK (h0:0<=n) (h1:0<=m) (h2:n < 3670344486987876) (h3:m < 3670344486987876) (h:cj n = cj m):n = m:=by
 have e12:(26:Int) ^ 12 = 95428956661682176:=by decide +kernel
 have a:=rl 12 n [] (by omega) (by rw [e12]; omega)
 have b:=rl 12 m [] (by omega) (by rw [e12]; omega)
 have h':fO 12 n [] = fO 12 m []:=h
 rw [h'] at a
 exact a.symm.trans b
theorem E4 (q:Nat) (hq:q<=100) (ns:List Int) (p:Nat):∃ fs:List Int,fL τ [.seq (ns.map .int),.int p,.int (q:Nat)] = .ok (.lst (fs.map .int))/\fs.length = q/\∀ x∈fs,0<=x/\x < 2520:=by
 have e1:=y6 (τ:=τ) ns p
 have e0:=y6 (τ:=τ) ns 0
 have e1:c7 τ [.seq (ns.map .int),.int p] = .ok (.int (eY ns p)):=e1
 have e0:c7 τ [.seq (ns.map .int),.int 0] = .ok (.int (eY ns 0)):=e0
 generalize hm:decide (eY ns 0 % 2 = 1) = mixed
 let g:Dv->Ev->Rs Ev:=gN 6
 let b:MS:=bP (bU (mB 4)) (aT (bC 3 (m1 (cU 2147483647) (m2 bX (m2 bX (m2 bX (m1 (iU 48271) (mB 3)) (m1 (iU 31) (mB 1))) (m1 (iU 7) (mB 6))) (mC (.int 11)))))
     (ju 5 (m1 (cU 2520) (m1 (ig 17) (m1 (cU 2147483629) (m2 bX (m2 bX (m1 (iU 69621) (mB 3)) (mB 1)) (mB 6))))))) (aT (ju 5 (m1 (cU 2520) (mB 3))) (bC 3 (m1 (ig 2520) (mB 3))))
 obtain ⟨ρ',h1,cell,fs,kk,rfl,h2,h3⟩:=wV (g:=g) (b:=b) (λi ρ=>∃ (cell:Int) (fs:List Int) (kk:Option Cell),ρ = (⟨[some (.v (.seq (ns.map .int))),some (.v (.int p)),some (.v (.int (q:Nat))),some (.v (.int cell)),some (.v (.bl mixed)),some (.m (fs.map .int)),kk],τ⟩:Ev)/\fs.length = i/\∀ x∈fs,0<=x/\x < 2520)
  (eh 0 q) 0 (⟨[some (.v (.seq (ns.map .int))),some (.v (.int p)),some (.v (.int (q:Nat))),some (.v (.int (eY ns p))),some (.v (.bl mixed)),some (.m []),none],τ⟩:Ev) ⟨_,[],none,rfl,rfl,λx hx=>nomatch hx⟩ (by
   rintro i d ρ hd ⟨cell,fs,kk,rfl,hl,hb⟩
   have hi:i < q:=by
    have:=(List.getElem?_eq_some_iff.mp hd).1
    simpa [eh] using this
   have hd':d = .int (0+ (i:Nat)):=by
    unfold eh at hd
    rw [List.getElem?_map,List.getElem?_range hi] at hd
    exact (Option.some.inj hd).symm
   subst hd'
   have lz:fs.length < sizeLine:=by have:=cM; omega
   have snoc:∀ y:Int,0<=y->y < 2520->(∀ x∈fs++[y],0<=x/\x < 2520):=λy h0 h1 x hx=>by
    rcases List.mem_append.mp hx with h | h
    ·exact hb x h
    ·rw [List.mem_singleton.mp h]; exact ⟨h0,h1⟩
   cases mixed with
   | true=>
     refine ⟨_,(⟨[some (.v (.seq (ns.map .int))),some (.v (.int p)),some (.v (.int (q:Nat))),some (.v (.int ((cell * 48271+ (p:Int) * 31+ (0+ (i:Nat)) * 7+11) % 2147483647))),some (.v (.bl true)),some (.m ((fs++[(((cell * 48271+ (p:Int) * 31+ (0+ (i:Nat)) * 7+11) % 2147483647) * 69621+ (p:Int)+ (0+ (i:Nat))) % 2147483629 / 17 % 2520]).map .int)),some (.v (.int (0+ (i:Nat))))],τ⟩:Ev),rfl,.inl ?_,?_⟩
     ·simp [b,g,aT,dk,bC,bP,ju,mB,mC,m1,m2,bU,gk,Rs.aq,dL,Ev.bG,Ev.set_mk,bX,lz]
     ·exact ⟨_,_,_,rfl,by simp [hl],snoc _ (Int.emod_nonneg _ (by decide)) (Int.emod_lt_of_pos _ (by decide))⟩
   | false=>
     refine ⟨_,(⟨[some (.v (.seq (ns.map .int))),some (.v (.int p)),some (.v (.int (q:Nat))),some (.v (.int (cell / 2520))),some (.v (.bl false)),some (.m ((fs++[cell % 2520]).map .int)),some (.v (.int (0+ (i:Nat))))],τ⟩:Ev),rfl,.inl ?_,?_⟩
     ·simp [b,g,aT,dk,bC,bP,ju,mB,mC,m1,m2,bU,gk,Rs.aq,dL,Ev.bG,Ev.set_mk,bX,lz]
     ·exact ⟨_,_,_,rfl,by simp [hl],snoc _ (Int.emod_nonneg _ (by decide)) (Int.emod_lt_of_pos _ (by decide))⟩)
 refine ⟨fs,?_,by rw [h2]; simp [eh],h3⟩
 have lp:nV (jI (aa (mV 2) ai)) (gN 6) b (⟨[some (.v (.seq (ns.map .int))),some (.v (.int p)),some (.v (.int (q:Nat))),some (.v (.int (eY ns p))),some (.v (.bl mixed)),some (.m []),none],τ⟩:Ev) = .ok (.nx (⟨[some (.v (.seq (ns.map .int))),some (.v (.int p)),some (.v (.int (q:Nat))),some (.v (.int cell)),some (.v (.bl mixed)),some (.m (fs.map .int)),kk],τ⟩:Ev)):=by
  have er:j7 [.int (q:Nat)] = .ok (eh 0 q):=by
   show (if ((q:Nat):Int)<=sizeLine/\-(2 ^ 62)<=((q:Nat):Int) then Rs.ok (eh 0 ((q:Nat):Int).toNat) else .bad) = _
   rw [if_pos ⟨by have:=cM; omega,by omega⟩]
   rfl
  show (j7 [.int (q:Nat)]).bind (λl=>eu (gN 6) b l _) = _
  rw [er]
  exact h1
 simp only [fL,mD]
 simp [aV,aE,aT,dk,bC,jU,mV,mC,m1,m2,ai,aa,aI,Rs.aq,dL,Ev.bG,Ev.set_mk,e1,e0,d4,ou,hm]
 show jX ((nV (jI (aa (mV 2) ai)) (gN 6) b _).bind _) = _
 rw [lp]
 rfl
end My
end
section
namespace My
open PySem L2
abbrev ie (p t h m:Dv) (l:Addr):List (Str×Dv):=[("parcel",p),("tons",t),("holder",h),("made_over",m),("signings",.ob l),("spent",.bl false)]
abbrev lj (p t k c:Dv):List (Str×Dv):=[("parcel",p),("tons",t),("kind",k),("copies",c),("fate",.tup [.str "open",.int 0,.str "",.int 0])]
abbrev fe (h:Dv) (b p r c:Addr):List (Str×Dv):=[("hands",h),("bills",.ob b),("papers",.ob p),("roots",.ob r),("parcels",.ob c)]
theorem bK (h:aF τ p o a = none):a≠p/\τ a = none:=by
 by_cases e:a = p
 ·rw [e,aY] at h; cases h
 ·exact ⟨e,(dc e).symm.trans h⟩
theorem ee {α:Type} {fs:List α} (n:Nat) (h:fs.length = n) (hn:n < 1000:=by decide):fs.length < 1000:=by rw [h]; exact hn
theorem Cw (hx:τ x = some (.ins "Paper" [])):Ac fU τ [.ob x,p,t,h,m] (λr=>∃ l,τ l = none/\l≠x/\r = .ok .non (aF (aF τ l (.ls [])) x (.ins "Paper" (ie p t h m l)))):=by
 refine d7 ?_
 refine aG (fM (d:=p) rfl rfl hx (by decide +kernel) (ee 0 rfl) ?_)
 refine aG (fM (d:=t) rfl rfl aY (by decide +kernel) (ee 1 (by kernel_rfl)) ?_)
 refine aG (fM (d:=h) rfl rfl aY (by decide +kernel) (ee 2 (by kernel_rfl)) ?_)
 refine aG (fM (d:=m) rfl rfl aY (by decide +kernel) (ee 3 (by kernel_rfl)) ?_)
 refine aG (A2 (λ_=>rfl) aY (by decide +kernel) (ee 4 (by kernel_rfl)) λq hq=>?_)
 refine fM (d:=.bl false) rfl rfl aY (by decide +kernel) (ee 5 (by kernel_rfl)) ?_
 simp only [fN] at hq ⊢
 have ne:q≠x:=λz=>by rw [z,aY] at hq; cases hq
 rw [dc ne] at hq
 refine ⟨q,hq,ne,?_⟩
 show Rw.ok .non _ = _
 congr 1
 show aF _ _ _ = _
 rw [iz (Ne.symm ne),fN]
 congr 1
theorem En (hx:τ x = some (.ins "Bill" [])):Ac iN τ [.ob x,p,t,k,c] (λr=>r = .ok .non (aF τ x (.ins "Bill" (lj p t k c)))):=by
 refine d7 ?_
 refine aG (fM (d:=p) rfl rfl hx (by decide +kernel) (ee 0 rfl) ?_)
 refine aG (fM (d:=t) rfl rfl aY (by decide +kernel) (ee 1 (by kernel_rfl)) ?_)
 refine aG (fM (d:=k) rfl rfl aY (by decide +kernel) (ee 2 (by kernel_rfl)) ?_)
 refine aG (fM (d:=c) rfl rfl aY (by decide +kernel) (ee 3 (by kernel_rfl)) ?_)
 refine fM rfl rfl aY (by decide +kernel) (ee 4 (by kernel_rfl)) ?_
 simp only [fN]
 show Rw.ok .non _ = _
 congr 1
theorem Aa (hx:τ x = some (.ins "Parcel" [])):Ac fE τ [.ob x] (λr=>∃ o s,τ o = none/\τ s = none/\o≠x/\s≠x/\s≠o/\r = .ok .non (aF (aF (aF τ o (.dct [])) s (.dct [])) x (.ins "Parcel" [("taken",.int 0),("owed",.ob o),("stops",.ob s)]))):=by
 refine d7 ?_
 refine aG (fM (d:=.int 0) rfl rfl hx (by decide +kernel) (ee 0 rfl) ?_)
 refine aG (jv (λ_=>rfl) aY (by decide +kernel) (ee 1 (by kernel_rfl)) λo ho=>?_)
 obtain ⟨neo,ho⟩:=bK ho
 refine jv (λ_=>rfl) aY (by decide +kernel) (ee 2 (by kernel_rfl)) λs hs=>?_
 obtain ⟨nes,hs⟩:=bK hs
 obtain ⟨nso,hs⟩:=bK hs
 obtain ⟨_,hs⟩:=bK hs
 refine ⟨o,s,ho,hs,neo,nes,nso,?_⟩
 show Rw.ok .non (aF (aF (aF (aF (aF τ x _) o _) x _) s _) x _) = _
 congr 1
 rw [iz (p:=x) (q:=o) (Ne.symm neo),fN,iz (p:=x) (q:=s) (Ne.symm nes),fN]
 congr 1
structure Ox (τ:cw) (S:Addr) (hs:List Dv) (B P R C:Addr) (bs ps rs cs:List (Key×Dv)):Prop where
 s:τ S = some (.ins "Store" (fe (.lst hs) B P R C))
 b:τ B = some (.dct bs)
 p:τ P = some (.dct ps)
 r:τ R = some (.dct rs)
 c:τ C = some (.dct cs)
 bp:B≠P
 br:B≠R
 bc:B≠C
 pr:P≠R
 pc:P≠C
 rc:R≠C
end My
end
section
namespace My
open PySem L2
abbrev c8 (l:List (List Nat)):List Dv:=l.map λn=>Dv.str (ao n)
section
theorem FR (h:τ S = some (.ins "Store" (fe hd B P R C))):di ["Store","Book"] "hands" τ (.ob S) = .ok hd:=by unfold di; dsimp only; rw [h]; kernel_rfl
theorem nM (h:τ S = some (.ins "Store" (fe hd B P R C))):di ["Store"] "bills" τ (.ob S) = .ok (.ob B):=by unfold di; dsimp only; rw [h]; kernel_rfl
theorem vi (h:τ S = some (.ins "Store" (fe hd B P R C))):di ["Store"] "papers" τ (.ob S) = .ok (.ob P):=by unfold di; dsimp only; rw [h]; kernel_rfl
theorem GY (h:τ S = some (.ins "Store" (fe hd B P R C))):di ["Store"] "roots" τ (.ob S) = .ok (.ob R):=by unfold di; dsimp only; rw [h]; kernel_rfl
theorem gO (h:τ S = some (.ins "Store" (fe hd B P R C))):di ["Store"] "parcels" τ (.ob S) = .ok (.ob C):=by unfold di; dsimp only; rw [h]; kernel_rfl
end
section
theorem Jc (e:τ q = some (.ins "Parcel" [("taken",k),("owed",o),("stops",s)])):di ["Parcel"] "owed" τ (.ob q) = .ok o:=by unfold di; dsimp only; rw [e]; kernel_rfl
end
theorem dY (h:τ p = some (.dct kvs)):pK τ (.ob p) = some kvs:=by unfold pK; dsimp only; rw [h]
theorem Lo (h:τ p = some (.ls l)):BC τ (.ob p) = .ok (.lst l):=by unfold BC; dsimp only; rw [h]
theorem EG (hl:ds.length = k) (h:m (aE n τ ds) = .ok (.nx ρ)):aV n k m τ ds = .ok .non:=by
 unfold aV; rw [if_pos hl,h]; rfl
theorem gL (hl:ds.length = k) (h:m (aE n τ ds) = .ok (.rt d)):aV n k m τ ds = .ok d:=by
 unfold aV; rw [if_pos hl,h]; rfl
theorem FC (h:n∈l):pP true (.str (ao n)) (.lst (c8 l)) = .ok (.bl false):=by
 have h1:(c8 l).all jF = true:=by simp [c8,jF]
 have h2:inD (.str (ao n)) (c8 l) = true:=by
  unfold inD
  rw [List.any_eq_true]
  exact ⟨_,List.mem_map.mpr ⟨n,h,rfl⟩,by simp [toV,qU]⟩
 unfold pP
 dsimp only
 rw [if_pos ⟨rfl,h1⟩,h2]
 rfl
abbrev wy:MS:=bP (bO (pP true) (mB 2) (bH ["Store","Book"] "hands" (mB 0))) (bS "NoSuch" (pb [g9,(uX 100000 (mV 2))])) aL
section
theorem vx (h:τ S = some (.ins "Store" (fe (.lst (c8 l)) B P R C))):∀ (ns:List (List Nat)) (x:Option Cell),(∀ n∈ns,n∈l)->∃ x',eu (gN 2) wy (c8 ns) (⟨[some (.v (.ob S)),b,x],τ⟩:Ev) = .ok (.nx (⟨[some (.v (.ob S)),b,x'],τ⟩:Ev))
 | [],x,_=>⟨x,rfl⟩
 | n::ns,x,hn=>by
   obtain ⟨x',e⟩:=vx h ns (some (.v (.str (ao n)))) λm hm=>hn m (List.mem_cons_of_mem _ hm)
   refine ⟨x',?_⟩
   have e1:wy (⟨[some (.v (.ob S)),b,some (.v (.str (ao n)))],τ⟩:Ev) = .ok (.nx (⟨[some (.v (.ob S)),b,some (.v (.str (ao n)))],τ⟩:Ev)):=by
    show (((di ["Store","Book"] "hands" τ (.ob S)).bind λy=>pP true (.str (ao n)) y).bind fY).bind _ = _
    rw [FR h,Rs.aq,FC (hn n (List.mem_cons_self ..))]
    rfl
   show ((wy (⟨[some (.v (.ob S)),b,some (.v (.str (ao n)))],τ⟩:Ev)).bind (nE (eu (gN 2) wy (c8 ns)))) = _
   rw [e1]
   exact e
theorem Jj (h:τ S = some (.ins "Store" (fe (.lst (c8 l)) B P R C))) (ns:List (List Nat)) (hn:∀ n∈ns,n∈l):kI τ [.ob S,.lst (c8 ns)] = .ok .non:=by
 obtain ⟨x',e⟩:=vx (b:=some (.v (.lst (c8 ns)))) h ns none hn
 exact EG rfl e
end
def lk {α:Type} (l:List (Str×α)) (k:Str):Option α:=(l.find? λx=>decide (x.1 = k)).map (·.2)
theorem K9 {α:Type} (k:Str):lk ([]:List (Str×α)) k = none:=rfl
theorem gc {α:Type} (x:Str×α) (l:List (Str×α)) (k:Str):lk (x::l) k = if x.1 = k then some x.2 else lk l k:=by
 unfold lk
 rw [List.find?_cons]
 by_cases h:x.1 = k
 ·simp [h]
 ·simp [h]
theorem jQ {α:Type} (l:List (Str×α)) (k0:Str) (a:α) (k:Str):lk (l++[(k0,a)]) k = (lk l k).or (if k0 = k then some a else none):=by
 induction l with
 | nil=>rw [List.nil_append,gc,K9]; rfl
 | cons y r ih=>
   rw [List.cons_append,gc,gc,ih]
   by_cases h:y.1 = k
   ·rw [if_pos h,if_pos h]; rfl
   ·rw [if_neg h,if_neg h]
theorem ye {α:Type} (g:Str->α->Dv) (l:List (Str×α)) (k:Str):fb (l.map λx=>((.inr x.1:Key),g x.1 x.2)) (.inr k) = (lk l k).map (g k):=by
 induction l with
 | nil=>rfl
 | cons x r ih=>
   rw [List.map_cons,gc]
   by_cases h:x.1 = k
   ·rw [rB (p:=((.inr x.1:Key),g x.1 x.2)) (by rw [h]),if_pos h,h]; rfl
   ·rw [nK (p:=((.inr x.1:Key),g x.1 x.2)) (λz=>h (Sum.inr.inj z)),if_neg h,ih]
theorem uP {α:Type} (g:Str->α->Dv) (l:List (Str×α)) (k:Str) (d:Dv) (h:lk l k = none):fS (l.map λx=>((.inr x.1:Key),g x.1 x.2)) (.inr k) d = (l.map λx=>((.inr x.1:Key),g x.1 x.2))++[(.inr k,d)]:=by
 unfold fS
 rw [if_neg]
 rw [List.any_eq_true]
 rintro ⟨kv,hk,e⟩
 obtain ⟨x,hx,rfl⟩:=List.mem_map.mp hk
 have e:x.1 = k:=Sum.inr.inj (of_decide_eq_true e)
 unfold lk at h
 rw [Option.map_eq_none_iff,List.find?_eq_none] at h
 exact h x hx (decide_eq_true e)
abbrev l5 (l:List Str):List (Key×Dv):=l.map λh=>(.inr h,.bl true)
def lN (l:List Str) (h:Str):List Str:=if h∈l then l else l++[h]
theorem Iv (l:List Str) (h:Str):fS (l5 l) (.inr h) (.bl true) = l5 (lN l h):=by
 unfold lN
 by_cases m:h∈l
 ·rw [if_pos m]
  unfold fS
  rw [if_pos (by rw [List.any_eq_true]; exact ⟨_,List.mem_map.mpr ⟨h,m,rfl⟩,decide_eq_true rfl⟩),List.map_map]
  refine List.map_congr_left λx _=>?_
  show (if (Sum.inr x:Key) = Sum.inr h then _ else _) = _
  split <;> rfl
 ·rw [if_neg m]
  unfold fS
  rw [if_neg]
  ·simp [l5]
  ·rw [List.any_eq_true]
   rintro ⟨kv,hk,e⟩
   obtain ⟨x,hx,rfl⟩:=List.mem_map.mp hk
   have e:x = h:=Sum.inr.inj (of_decide_eq_true e)
   exact m (e▸hx)
inductive Slot where
 | S | B | P | R | C | bT (k:Str) | pap (k:Str) | sgl (k:Str) | bB (k:Str) | owe (k:Str) | stp (k:Str) | x (n:Nat)
open Classical in
noncomputable def up {α:Type} (f:Slot->α) (s:Slot) (a:α):Slot->α:=λt=>if t = s then a else f t
theorem bw {α:Type} {f:Slot->α} {s:Slot} {a:α}:up f s a s = a:=if_pos rfl
theorem ar {α:Type} {f:Slot->α} {s t:Slot} {a:α} (h:t≠s):up f s a t = f t:=if_neg h
structure Own (τ:cw) (ad:Slot->Addr) (c:Slot->Option Ob):Prop where
 at_:∀ s o,c s = some o->τ (ad s) = some o
 inj:∀ s s' o o',c s = some o->c s' = some o'->ad s = ad s'->s = s'
section
theorem Own.upd (h:Own τ ad c) (h0:c s0 = some o0):Own (aF τ (ad s0) o) ad (up c s0 (some o)):=by
 refine ⟨λs u e=>?_,λs s' u u' e e' z=>?_⟩
 ·by_cases hs:s = s0
  ·subst hs; rw [bw] at e; cases e; exact aY
  ·rw [ar hs] at e
   rw [dc (λz=>hs (h.inj s s0 u o0 e h0 z))]
   exact h.at_ s u e
 ·have live:∀ t v,up c s0 (some o) t = some v->∃ v',c t = some v':=λt v e=>by
   by_cases ht:t = s0
   ·exact ⟨o0,ht▸h0⟩
   ·rw [ar ht] at e; exact ⟨v,e⟩
  obtain ⟨_,e1⟩:=live s u e
  obtain ⟨_,e2⟩:=live s' u' e'
  exact h.inj s s' _ _ e1 e2 z
theorem Own.new (h:Own τ ad c) (hp:τ p = none):Own (aF τ p o) (up ad s0 p) (up c s0 (some o)):=by
 have old:∀ s u,s≠s0->up c s0 (some o) s = some u->c s = some u/\up ad s0 p s = ad s/\ad s≠p:=λs u hs e=>by
  rw [ar hs] at e
  exact ⟨e,ar hs,λz=>by have:=h.at_ s u e; rw [z,hp] at this; cases this⟩
 refine ⟨λs u e=>?_,λs s' u u' e e' z=>?_⟩
 ·by_cases hs:s = s0
  ·subst hs; rw [bw] at e; cases e; rw [bw]; exact aY
  ·obtain ⟨e1,e2,e3⟩:=old s u hs e
   rw [e2,dc e3]; exact h.at_ s u e1
 ·by_cases hs:s = s0
  ·by_cases hs':s' = s0
   ·rw [hs,hs']
   ·obtain ⟨_,e2,e3⟩:=old s' u' hs' e'
    rw [hs,bw,e2] at z
    exact absurd z.symm e3
  ·obtain ⟨e1,e2,e3⟩:=old s u hs e
   by_cases hs':s' = s0
   ·rw [hs',bw,e2] at z
    exact absurd z e3
   ·obtain ⟨e1',e2',e3'⟩:=old s' u' hs' e'
    rw [e2,e2'] at z
    exact h.inj s s' u u' e1 e1' z
end
end My
end
section
namespace My
open PySem L2
def ct (n:List Nat) (j:Nat):Str:=ao (r6 n (j+1))
theorem LV (h:ct n i = ct n j):i = j:=by
 have:=nk.mp h
 simp [r6] at this
 exact this
theorem M4 (hj:j < 3):pd (.int (1+ ((j:Nat):Int))) = .ok (.str (ao [48+ (j+1)])):=by
 match j,hj with
 | 0,_=>exact congrArg (λx=>Rs.ok (Dv.str x)) (by decide +kernel)
 | 1,_=>exact congrArg (λx=>Rs.ok (Dv.str x)) (by decide +kernel)
 | 2,_=>exact congrArg (λx=>Rs.ok (Dv.str x)) (by decide +kernel)
theorem Jt (hn:n.length<=12) (hj:j < 3):h9 τ [.str (ao n),.int (1+ ((j:Nat):Int))] = .ok (.str (ct n j)):=by
 have e0:=M4 hj
 have e1:oF Str.empty (.str (ao n)) = .ok (ao n):=by
  show (if Str.empty.length+ (ao n).length<=sizeLine then Rs.ok (Str.empty++ao n) else .bad) = _
  rw [if_pos (by rw [fw]; have:=cM; show 0+ _<=_; omega)]
  exact congrArg Rs.ok (kY (a:=[]) (b:=n))
 have e2:oF (ao n) (.str "/") = .ok (ao (n++[47])):=by
  show (if (ao n).length+1<=sizeLine then Rs.ok (ao n++ao [47]) else .bad) = _
  rw [if_pos (by rw [fw]; have:=cM; omega),kY]
 have e3:oF (ao (n++[47])) (.str (ao [48+ (j+1)])) = .ok (ct n j):=by
  show (if (ao (n++[47])).length+1<=sizeLine then Rs.ok (ao (n++[47])++ao [48+ (j+1)]) else .bad) = _
  rw [if_pos (by rw [fw,List.length_append]; have:=cM; simp only [List.length_cons,List.length_nil]; omega),kY]
  simp [ct,r6]
 refine gL rfl ?_
 show (tZ [m1 pd (mV 0),mC (.str "/"),m1 pd (mV 1)] Str.empty (⟨[some (.v (.str (ao n))),some (.v (.int (1+ ((j:Nat):Int))))],τ⟩:Ev)).bind _ = _
 show ((oF Str.empty (.str (ao n))).bind λa=>(oF a (.str "/")).bind λa=>(pd (.int (1+ ((j:Nat):Int)))).bind λd=>(oF a d).bind λa=>.ok (Dv.str a)).bind _ = _
 rw [e1,Rs.aq,e2,Rs.aq,e0,Rs.aq,e3]
 rfl
section
theorem Ou (x:Dv) (r:List Dv):aw (.tup (x::r)) (.int 0) = .ok x:=by
 have e:fC (x::r) ((0:Nat):Int) = some x:=mw rfl
 unfold aw
 dsimp only
 rw [show ((0:Int)) = ((0:Nat):Int) from rfl,e]
theorem judge_ok (hc:fA τ [.tup (.str k::row)] = .ok .non) (hj:oB.lookup k = some f) (e:f τ [.ob S,.tup (.str k::row)] = .ok .non):Ac jS τ [.ob S,.tup (.str k::row)] (λr=>r = .ok .non τ):=by
 refine d7 (aG (gF (d:=.non) hc (gF (d:=.non) ?_ rfl)))
 unfold km
 rw [show m2 aw (mB 1) (mC (.int 0)) (aE 2 τ [.ob S,.tup (.str k::row)]) = .ok (.str k) from Ou _ _,Rs.aq]
 dsimp only
 rw [hj]; exact e
end
abbrev Sg:=Str×Str×Str
def Pu (s:Sg):Dv:=.tup [.str s.1,.str s.2.1,.str s.2.2]
structure AH where
 ag:Str
 bb:Int
 b9:Str
 mo:Str
 sg:List Sg
structure G5 where
 ag:Str
 bb:Int
 kind:Str
 l9:List Str
structure ly where
 fQ:List Str
 Nw:List Str
structure iK where
 lB:List (List Nat)
 bY:List (Str×G5)
 bJ:List (Str×AH)
 aH:List (Str×ly)
abbrev lX (o s:Addr):List (Str×Dv):=[("taken",.int 0),("owed",.ob o),("stops",.ob s)]
structure Sem (ad:Slot->Addr) (c:Slot->Option Ob) (st:iK):Prop where
 s:c .S = some (.ins "Store" (fe (.lst (c8 st.lB)) (ad .B) (ad .P) (ad .R) (ad .C)))
 b:c .B = some (.dct (st.bY.map λx=>(.inr x.1,.ob (ad (.bT x.1)))))
 p:c .P = some (.dct (st.bJ.map λx=>(.inr x.1,.ob (ad (.pap x.1)))))
 r:c .R = some (.dct [])
 cp:c .C = some (.dct (st.aH.map λx=>(.inr x.1,.ob (ad (.bB x.1)))))
 bT:∀ k b,lk st.bY k = some b->c (.bT k) = some (.ins "Bill" (lj (.str b.ag) (.int b.bb) (.str b.kind) (.lst (b.l9.map .str))))
 pap:∀ k q,lk st.bJ k = some q->c (.pap k) = some (.ins "Paper" (ie (.str q.ag) (.int q.bb) (.str q.b9) (.str q.mo) (ad (.sgl k))))/\c (.sgl k) = some (.ls (q.sg.map Pu))
 bB:∀ k q,lk st.aH k = some q->c (.bB k) = some (.ins "Parcel" (lX (ad (.owe k)) (ad (.stp k))))/\c (.owe k) = some (.dct (l5 q.fQ))/\c (.stp k) = some (.dct (l5 q.Nw))
 nb:∀ k,lk st.bY k = none->c (.bT k) = none
 np:∀ k,lk st.bJ k = none->c (.pap k) = none/\c (.sgl k) = none
 nc:∀ k,lk st.aH k = none->c (.bB k) = none/\c (.owe k) = none/\c (.stp k) = none
def uq (st:iK) (k:Str) (q:ly):iK:={ st with aH:=st.aH.map λx=>if x.1 = k then (x.1,q) else x }
theorem Ag {l:List (Str×ly)} {k k':Str} {q q0:ly} (h:lk l k = some q0):lk (l.map λx=>if x.1 = k then (x.1,q) else x) k' = if k' = k then some q else lk l k':=by
 induction l with
 | nil=>cases h
 | cons x r ih=>
   rw [List.map_cons,gc,gc]
   rw [gc] at h
   by_cases e:x.1 = k
   ·rw [if_pos e]
    by_cases e':k' = k
    ·rw [if_pos e',if_pos (by show x.1 = k'; rw [e,e'])]
    ·rw [if_neg e',if_neg (by show ¬x.1 = k'; rw [e]; exact Ne.symm e'),if_neg (by rw [e]; exact Ne.symm e')]
     by_cases hr:∃ q1,lk r k = some q1
     ·obtain ⟨q1,hr⟩:=hr
      rw [if_pos e] at h
      have:=lk_tail (k:=k) (k':=k') (q:=q) r e'
      exact this
     ·exact lk_tail r e'
   ·rw [if_neg e] at h ⊢
    rw [ih h]
    by_cases e':k' = k
    ·rw [if_pos e',if_pos e',if_neg (by rw [e']; exact e)]
    ·rw [if_neg e',if_neg e']
where
 lk_tail {k k':Str} {q:ly}:∀ (r:List (Str×ly)),¬k' = k->lk (r.map λx=>if x.1 = k then (x.1,q) else x) k' = lk r k'
  | [],_=>rfl
  | x::r,n=>by
    rw [List.map_cons,gc,gc,lk_tail r n]
    by_cases e:x.1 = k
    ·rw [if_pos e,if_neg (by show ¬x.1 = k'; rw [e]; exact Ne.symm n),if_neg (by rw [e]; exact Ne.symm n)]
    ·rw [if_neg e]
theorem NI (l:List (Str×ly)) (k:Str) (q:ly) (f:Str->Dv):((l.map λx=>if x.1 = k then (x.1,q) else x).map λx=>((.inr x.1:Key),f x.1)) = l.map λx=>(.inr x.1,f x.1):=by
 rw [List.map_map]
 refine List.map_congr_left λx _=>?_
 show (((Sum.inr (if x.1 = k then (x.1,q) else x).1):Key),f (if x.1 = k then (x.1,q) else x).1) = _
 split <;> rfl
section
theorem Sem.Hn (m:Sem ad c st) (hk:lk st.aH k = some q) (l:List Str):Sem ad (up c (.owe k) (some (.dct (l5 l)))) (uq st k { q with fQ:=l }):=by
 have ne:∀ (s:Slot),s≠.owe k->up c (.owe k) (some (.dct (l5 l))) s = c s:=λ_ h=>ar h
 refine ⟨?_,?_,?_,?_,?_,λk' b e=>?_,λk' b e=>?_,λk' b e=>?_,λk' e=>?_,λk' e=>?_,λk' e=>?_⟩
 ·rw [ne .S nofun]; exact m.s
 ·rw [ne .B nofun]; exact m.b
 ·rw [ne .P nofun]; exact m.p
 ·rw [ne .R nofun]; exact m.r
 ·rw [ne .C nofun,m.cp]
  show some (Ob.dct _) = some (Ob.dct _)
  rw [show (uq st k { q with fQ:=l }).aH = st.aH.map λx=>if x.1 = k then (x.1,{ q with fQ:=l }) else x from rfl,NI _ _ _ λx=>.ob (ad (.bB x))]
 ·rw [ne (.bT k') nofun]; exact m.bT k' b e
 ·rw [ne (.pap k') nofun,ne (.sgl k') nofun]; exact m.pap k' b e
 ·have e:(if k' = k then some ({ q with fQ:=l }:ly) else lk st.aH k') = some b:=(Ag hk).symm.trans e
  rw [ne (.bB k') nofun,ne (.stp k') nofun]
  by_cases hh:k' = k
  ·rw [if_pos hh] at e
   cases e
   subst hh
   obtain ⟨h1,h2,h3⟩:=m.bB k' q hk
   exact ⟨h1,bw,h3⟩
  ·rw [if_neg hh] at e
   rw [ne (.owe k') (λz=>hh (Slot.owe.inj z))]
   exact m.bB k' b e
 ·rw [ne (.bT k') nofun]; exact m.nb k' e
 ·rw [ne (.pap k') nofun,ne (.sgl k') nofun]; exact m.np k' e
 ·have e:(if k' = k then some ({ q with fQ:=l }:ly) else lk st.aH k') = none:=(Ag hk).symm.trans e
  have hh:¬k' = k:=λhh=>by rw [if_pos hh] at e; cases e
  rw [if_neg hh] at e
  rw [ne (.bB k') nofun,ne (.stp k') nofun,ne (.owe k') (λz=>hh (Slot.owe.inj z))]
  exact m.nc k' e
end
end My
end
section
namespace My
open PySem L2
section
variable {ad:Slot->Addr} {c:Slot->Option Ob} {st:iK} {k:Str} {q:ly} {a:List Nat} {d:Int}
theorem fc (W:Own τ ad c) (m:Sem ad c st):τ (ad .S) = some (.ins "Store" (fe (.lst (c8 st.lB)) (ad .B) (ad .P) (ad .R) (ad .C))):=W.at_ _ _ m.s
theorem LH (W:Own τ ad c) (m:Sem ad c st) (hk:lk st.aH k = some q):τ (ad (.bB k)) = some (.ins "Parcel" (lX (ad (.owe k)) (ad (.stp k)))):=W.at_ _ _ (m.bB k q hk).1
theorem LC (W:Own τ ad c) (m:Sem ad c st) (hk:lk st.aH k = some q):τ (ad (.owe k)) = some (.dct (l5 q.fQ)):=W.at_ _ _ (m.bB k q hk).2.1
theorem Ae (hk:lk st.aH k = some q):fb (st.aH.map λx=>((.inr x.1:Key),Dv.ob (ad (.bB x.1)))) (.inr k) = some (.ob (ad (.bB k))):=by
 rw [ye (λx _=>.ob (ad (.bB x))),hk]; rfl
theorem JX (W:Own τ ad c) (m:Sem ad c st) (hk:lk st.aH k = some q):((di ["Store"] "parcels" τ (.ob (ad .S))).bind λd=>getD τ d (.str k)) = .ok (.ob (ad (.bB k))):=by
 rw [gO (fc W m),Rs.aq]
 unfold getD
 rw [dY (W.at_ _ _ m.cp)]
 show (match fb _ (.inr k) with | some d=>Rs.ok d | none=>.bad) = _
 rw [Ae hk]
end
end My
end
section
namespace My
open PySem L2
def ix (kind:Str) (h0:List Nat):Str:=if kind = "holder" then "-" else ao h0
structure Bh (ad:Slot->Addr) (c:Slot->Option Ob) (ad':Slot->Addr) (c':Slot->Option Ob):Prop where
 x:∀ n,c' (.x n) = c (.x n)
 ax:∀ n,ad' (.x n) = ad (.x n)
 aS:ad' .S = ad .S
theorem Bh.refl:Bh ad c ad c:=⟨λ_=>rfl,λ_=>rfl,rfl⟩
theorem Bh.trans (h:Bh ad c ad1 c1) (k:Bh ad1 c1 ad2 c2):Bh ad c ad2 c2:=⟨λn=>(k.x n).trans (h.x n),λn=>(k.ax n).trans (h.ax n),k.aS.trans h.aS⟩
theorem f6 {α:Type} {l:List (Str×α)} {f g:Str->Addr} (h:∀ k a,lk l k = some a->f k = g k):(l.map λx=>((.inr x.1:Key),Dv.ob (f x.1))) = l.map λx=>(.inr x.1,.ob (g x.1)):=by
 refine List.map_congr_left λx hx=>?_
 have:∃ a,lk l x.1 = some a:=by
  unfold lk
  cases z:l.find? (λy=>decide (y.1 = x.1)) with
  | none=>rw [List.find?_eq_none] at z; exact absurd (decide_eq_true rfl) (z x hx)
  | some y=>exact ⟨_,rfl⟩
 obtain ⟨a,e⟩:=this
 rw [h x.1 a e]
section
theorem Sem.Fu (m:Sem ad c st) (hk:lk st.bJ k = none) (l q:Addr) (ag:Str) (bb:Int) (b9 mo:Str):
  Sem (up (up ad (.sgl k) l) (.pap k) q) (up (up (up c (.sgl k) (some (.ls []))) (.pap k) (some (.ins "Paper" (ie (.str ag) (.int bb) (.str b9) (.str mo) l)))) .P (some (.dct ((st.bJ.map λx=>((.inr x.1:Key),Dv.ob (ad (.pap x.1))))++[(.inr k,.ob q)])))) { st with bJ:=st.bJ++[(k,⟨ag,bb,b9,mo,[]⟩)] }:=by
 have an:∀ s,s≠.sgl k->s≠.pap k->up (up ad (.sgl k) l) (.pap k) q s = ad s:=λs h1 h2=>(ar h2).trans (ar h1)
 have cn:∀ s,s≠.sgl k->s≠.pap k->s≠.P->up (up (up c (.sgl k) (some (.ls []))) (.pap k) (some (.ins "Paper" (ie (.str ag) (.int bb) (.str b9) (.str mo) l)))) .P (some (.dct ((st.bJ.map λx=>((.inr x.1:Key),Dv.ob (ad (.pap x.1))))++[(.inr k,.ob q)]))) s = c s:=λs h1 h2 h3=>(ar h3).trans ((ar h2).trans (ar h1))
 have old:∀ k' p,lk st.bJ k' = some p->k'≠k:=λk' p e z=>by rw [z,hk] at e; cases e
 refine ⟨?_,?_,?_,?_,?_,λk' b e=>?_,λk' b e=>?_,λk' b e=>?_,λk' e=>?_,λk' e=>?_,λk' e=>?_⟩
 ·rw [cn .S nofun nofun nofun,an .B nofun nofun,an .P nofun nofun,an .R nofun nofun,an .C nofun nofun]; exact m.s
 ·rw [cn .B nofun nofun nofun,m.b]
  show some (Ob.dct _) = some (Ob.dct _)
  rw [f6 (f:=λk=>ad (.bT k)) (g:=λk'=>up (up ad (.sgl k) l) (.pap k) q (.bT k')) λk' _ _=>(an (.bT k') nofun nofun).symm]
 ·rw [bw,List.map_append]
  show some (Ob.dct _) = some (Ob.dct _)
  rw [f6 (f:=λk=>ad (.pap k)) (g:=λk'=>up (up ad (.sgl k) l) (.pap k) q (.pap k')) λk' p e=>(an (.pap k') nofun (λz=>old k' p e (Slot.pap.inj z))).symm]
  show some (Ob.dct _) = some (Ob.dct (_++[(.inr k,.ob (up (up ad (.sgl k) l) (.pap k) q (.pap k)))]))
  rw [bw]
 ·rw [cn .R nofun nofun nofun]; exact m.r
 ·rw [cn .C nofun nofun nofun,m.cp]
  show some (Ob.dct _) = some (Ob.dct _)
  rw [f6 (f:=λk=>ad (.bB k)) (g:=λk'=>up (up ad (.sgl k) l) (.pap k) q (.bB k')) λk' _ _=>(an (.bB k') nofun nofun).symm]
 ·rw [cn (.bT k') nofun nofun nofun]; exact m.bT k' b e
 ·have e:(lk st.bJ k').or (if k = k' then some (⟨ag,bb,b9,mo,[]⟩:AH) else none) = some b:=(jQ st.bJ k ⟨ag,bb,b9,mo,[]⟩ k').symm.trans e
  cases z:lk st.bJ k' with
  | some p=>
    rw [z] at e
    have e2:=Option.some.inj (show some p = some _ from e)
    subst e2
    have ne:=old k' p z
    rw [cn (.pap k') nofun (λz=>ne (Slot.pap.inj z)) nofun,cn (.sgl k') (λz=>ne (Slot.sgl.inj z)) nofun nofun,an (.sgl k') (λz=>ne (Slot.sgl.inj z)) nofun]
    exact m.pap k' p z
  | none=>
    rw [z,Option.none_or] at e
    split at e
    ·rename_i hkk
     have e2:=Option.some.inj e
     subst hkk e2
     refine ⟨?_,?_⟩
     ·rw [ar (s:=.P) (t:=.pap k) nofun,bw,ar (s:=.pap k) (t:=.sgl k) nofun,bw]
     ·rw [ar (s:=.P) (t:=.sgl k) nofun,ar (s:=.pap k) (t:=.sgl k) nofun,bw]; rfl
    ·cases e
 ·rw [cn (.bB k') nofun nofun nofun,cn (.owe k') nofun nofun nofun,cn (.stp k') nofun nofun nofun,an (.owe k') nofun nofun,an (.stp k') nofun nofun]
  exact m.bB k' b e
 ·rw [cn (.bT k') nofun nofun nofun]; exact m.nb k' e
 ·have e:(lk st.bJ k').or (if k = k' then some (⟨ag,bb,b9,mo,[]⟩:AH) else none) = none:=(jQ st.bJ k ⟨ag,bb,b9,mo,[]⟩ k').symm.trans e
  cases z:lk st.bJ k' with
  | some p=>rw [z] at e; replace e:some p = none:=e; cases e
  | none=>
    rw [z,Option.none_or] at e
    split at e
    ·cases e
    ·rename_i ne
     rw [cn (.pap k') nofun (λz=>ne (Slot.pap.inj z).symm) nofun,cn (.sgl k') (λz=>ne (Slot.sgl.inj z).symm) nofun nofun]
     exact m.np k' z
 ·rw [cn (.bB k') nofun nofun nofun,cn (.owe k') nofun nofun nofun,cn (.stp k') nofun nofun nofun]
  exact m.nc k' e
theorem Sem.IC (m:Sem ad c st) (hk:lk st.bY k = none) (q:Addr) (b:G5):
  Sem (up ad (.bT k) q) (up (up c (.bT k) (some (.ins "Bill" (lj (.str b.ag) (.int b.bb) (.str b.kind) (.lst (b.l9.map .str)))))) .B (some (.dct ((st.bY.map λx=>((.inr x.1:Key),Dv.ob (ad (.bT x.1))))++[(.inr k,.ob q)])))) { st with bY:=st.bY++[(k,b)] }:=by
 generalize hO:(some (Ob.ins "Bill" (lj (.str b.ag) (.int b.bb) (.str b.kind) (.lst (b.l9.map .str)))):Option Ob) = O
 have an:∀ s,s≠.bT k->up ad (.bT k) q s = ad s:=λs h1=>ar h1
 have cn:∀ s,s≠.bT k->s≠.B->up (up c (.bT k) O) .B (some (.dct ((st.bY.map λx=>((.inr x.1:Key),Dv.ob (ad (.bT x.1))))++[(.inr k,.ob q)]))) s = c s:=λs h1 h3=>(ar h3).trans (ar h1)
 have old:∀ k' p,lk st.bY k' = some p->k'≠k:=λk' p e z=>by rw [z,hk] at e; cases e
 have nn:∀ {s t:Slot},s≠t->s≠t:=λh=>h
 refine ⟨?_,?_,?_,?_,?_,λk' b' e=>?_,λk' b' e=>?_,λk' b' e=>?_,λk' e=>?_,λk' e=>?_,λk' e=>?_⟩
 ·rw [cn .S nofun nofun,an .B nofun,an .P nofun,an .R nofun,an .C nofun]; exact m.s
 ·rw [bw,List.map_append]
  show some (Ob.dct _) = some (Ob.dct _)
  rw [f6 (f:=λk=>ad (.bT k)) (g:=λk'=>up ad (.bT k) q (.bT k')) λk' p e=>(an (.bT k') (λz=>old k' p e (Slot.bT.inj z))).symm]
  show some (Ob.dct _) = some (Ob.dct (_++[(.inr k,.ob (up ad (.bT k) q (.bT k)))]))
  rw [bw]
 ·rw [cn .P nofun nofun,m.p]
  show some (Ob.dct _) = some (Ob.dct _)
  rw [f6 (f:=λk=>ad (.pap k)) (g:=λk'=>up ad (.bT k) q (.pap k')) λk' _ _=>(an (.pap k') nofun).symm]
 ·rw [cn .R nofun nofun]; exact m.r
 ·rw [cn .C nofun nofun,m.cp]
  show some (Ob.dct _) = some (Ob.dct _)
  rw [f6 (f:=λk=>ad (.bB k)) (g:=λk'=>up ad (.bT k) q (.bB k')) λk' _ _=>(an (.bB k') nofun).symm]
 ·have e:(lk st.bY k').or (if k = k' then some b else none) = some b':=(jQ st.bY k b k').symm.trans e
  cases z:lk st.bY k' with
  | some p=>
    rw [z] at e
    have e2:=Option.some.inj (show some p = some _ from e)
    subst e2
    have ne:=old k' p z
    rw [cn (.bT k') (λz=>ne (Slot.bT.inj z)) nofun]
    exact m.bT k' p z
  | none=>
    rw [z,Option.none_or] at e
    split at e
    ·rename_i hkk
     have e2:=Option.some.inj e
     subst hkk e2
     rw [ar (s:=.B) (t:=.bT k) nofun,bw]
     exact hO.symm
    ·cases e
 ·rw [cn (.pap k') nofun nofun,cn (.sgl k') nofun nofun,an (.sgl k') nofun]
  exact m.pap k' b' e
 ·rw [cn (.bB k') nofun nofun,cn (.owe k') nofun nofun,cn (.stp k') nofun nofun,an (.owe k') nofun,an (.stp k') nofun]
  exact m.bB k' b' e
 ·have e:(lk st.bY k').or (if k = k' then some b else none) = none:=(jQ st.bY k b k').symm.trans e
  cases z:lk st.bY k' with
  | some p=>rw [z] at e; replace e:some p = none:=e; cases e
  | none=>
    rw [z,Option.none_or] at e
    split at e
    ·cases e
    ·rename_i ne
     rw [cn (.bT k') (λz=>ne (Slot.bT.inj z).symm) nofun]
     exact m.nb k' z
 ·rw [cn (.pap k') nofun nofun,cn (.sgl k') nofun nofun]
  exact m.np k' e
 ·rw [cn (.bB k') nofun nofun,cn (.owe k') nofun nofun,cn (.stp k') nofun nofun]
  exact m.nc k' e
end
end My
end
section
namespace My
open PySem L2
section
theorem Sem.Ek (m:Sem ad c st) (hk:lk st.aH k = none) (o s q:Addr):
  Sem (up (up (up ad (.owe k) o) (.stp k) s) (.bB k) q) (up (up (up (up c (.owe k) (some (.dct []))) (.stp k) (some (.dct []))) (.bB k) (some (.ins "Parcel" (lX o s)))) .C (some (.dct ((st.aH.map λx=>((.inr x.1:Key),Dv.ob (ad (.bB x.1))))++[(.inr k,.ob q)])))) { st with aH:=st.aH++[(k,⟨[],[]⟩)] }:=by
 have an:∀ s',s'≠.owe k->s'≠.stp k->s'≠.bB k->up (up (up ad (.owe k) o) (.stp k) s) (.bB k) q s' = ad s':=λs' h1 h2 h3=>(ar h3).trans ((ar h2).trans (ar h1))
 have cn:∀ s',s'≠.owe k->s'≠.stp k->s'≠.bB k->s'≠.C->up (up (up (up c (.owe k) (some (.dct []))) (.stp k) (some (.dct []))) (.bB k) (some (.ins "Parcel" (lX o s)))) .C (some (.dct ((st.aH.map λx=>((.inr x.1:Key),Dv.ob (ad (.bB x.1))))++[(.inr k,.ob q)]))) s' = c s':=λs' h1 h2 h3 h4=>(ar h4).trans ((ar h3).trans ((ar h2).trans (ar h1)))
 have old:∀ k' p,lk st.aH k' = some p->k'≠k:=λk' p e z=>by rw [z,hk] at e; cases e
 refine ⟨?_,?_,?_,?_,?_,λk' b e=>?_,λk' b e=>?_,λk' b e=>?_,λk' e=>?_,λk' e=>?_,λk' e=>?_⟩
 ·rw [cn .S nofun nofun nofun nofun,an .B nofun nofun nofun,an .P nofun nofun nofun,an .R nofun nofun nofun,an .C nofun nofun nofun]; exact m.s
 ·rw [cn .B nofun nofun nofun nofun,m.b]
  show some (Ob.dct _) = some (Ob.dct _)
  rw [f6 (f:=λk=>ad (.bT k)) (g:=λk'=>up (up (up ad (.owe k) o) (.stp k) s) (.bB k) q (.bT k')) λk' _ _=>(an (.bT k') nofun nofun nofun).symm]
 ·rw [cn .P nofun nofun nofun nofun,m.p]
  show some (Ob.dct _) = some (Ob.dct _)
  rw [f6 (f:=λk=>ad (.pap k)) (g:=λk'=>up (up (up ad (.owe k) o) (.stp k) s) (.bB k) q (.pap k')) λk' _ _=>(an (.pap k') nofun nofun nofun).symm]
 ·rw [cn .R nofun nofun nofun nofun]; exact m.r
 ·rw [bw,List.map_append]
  show some (Ob.dct _) = some (Ob.dct _)
  rw [f6 (f:=λk=>ad (.bB k)) (g:=λk'=>up (up (up ad (.owe k) o) (.stp k) s) (.bB k) q (.bB k')) λk' p e=>(an (.bB k') nofun nofun (λz=>old k' p e (Slot.bB.inj z))).symm]
  show some (Ob.dct _) = some (Ob.dct (_++[(.inr k,.ob (up (up (up ad (.owe k) o) (.stp k) s) (.bB k) q (.bB k)))]))
  rw [bw]
 ·rw [cn (.bT k') nofun nofun nofun nofun]; exact m.bT k' b e
 ·rw [cn (.pap k') nofun nofun nofun nofun,cn (.sgl k') nofun nofun nofun nofun,an (.sgl k') nofun nofun nofun]
  exact m.pap k' b e
 ·have e:(lk st.aH k').or (if k = k' then some (⟨[],[]⟩:ly) else none) = some b:=(jQ st.aH k ⟨[],[]⟩ k').symm.trans e
  cases z:lk st.aH k' with
  | some p=>
    rw [z] at e
    have e2:=Option.some.inj (show some p = some _ from e)
    subst e2
    have ne:=old k' p z
    rw [cn (.bB k') nofun nofun (λz=>ne (Slot.bB.inj z)) nofun,cn (.owe k') (λz=>ne (Slot.owe.inj z)) nofun nofun nofun,cn (.stp k') nofun (λz=>ne (Slot.stp.inj z)) nofun nofun,an (.owe k') (λz=>ne (Slot.owe.inj z)) nofun nofun,an (.stp k') nofun (λz=>ne (Slot.stp.inj z)) nofun]
    exact m.bB k' p z
  | none=>
    rw [z,Option.none_or] at e
    split at e
    ·rename_i hkk
     have e2:=Option.some.inj e
     subst hkk e2
     refine ⟨?_,?_,?_⟩
     ·rw [ar (s:=.C) (t:=.bB k) nofun,bw,ar (s:=.bB k) (t:=.owe k) nofun,ar (s:=.stp k) (t:=.owe k) nofun,bw,ar (s:=.bB k) (t:=.stp k) nofun,bw]
     ·rw [ar (s:=.C) (t:=.owe k) nofun,ar (s:=.bB k) (t:=.owe k) nofun,ar (s:=.stp k) (t:=.owe k) nofun,bw]; rfl
     ·rw [ar (s:=.C) (t:=.stp k) nofun,ar (s:=.bB k) (t:=.stp k) nofun,bw]; rfl
    ·cases e
 ·rw [cn (.bT k') nofun nofun nofun nofun]; exact m.nb k' e
 ·rw [cn (.pap k') nofun nofun nofun nofun,cn (.sgl k') nofun nofun nofun nofun]
  exact m.np k' e
 ·have e:(lk st.aH k').or (if k = k' then some (⟨[],[]⟩:ly) else none) = none:=(jQ st.aH k ⟨[],[]⟩ k').symm.trans e
  cases z:lk st.aH k' with
  | some p=>rw [z] at e; replace e:some p = none:=e; cases e
  | none=>
    rw [z,Option.none_or] at e
    split at e
    ·cases e
    ·rename_i ne
     rw [cn (.bB k') nofun nofun (λz=>ne (Slot.bB.inj z).symm) nofun,cn (.owe k') (λz=>ne (Slot.owe.inj z).symm) nofun nofun nofun,cn (.stp k') nofun (λz=>ne (Slot.stp.inj z).symm) nofun nofun]
     exact m.nc k' z
end
abbrev NF:MW:=kH (bH ["Store"] "papers" (mB 0)) (mV 5) (fW "Paper" 5 fU (aa (mV 2) (aa (m2 aw (mB 1) (mC (.int 5))) (aa (m2 aw (mB 1) (mC (.int 7))) (aa (mV 3) ai)))))
section
abbrev xO (S:Addr) (a1 a2 a3 a4 a6 a8:Dv) (ag b9 mo:Str) (bb:Int) (cs x:Option Cell):List (Option Cell):=[some (.v (.ob S)),some (.v (.tup [a1,a2,a3,.str ag,a4,.int bb,a6,.str b9,a8])),some (.v (.str ag)),some (.v (.str mo)),cs,x,none]
theorem vL:∀ (ks:List Str) (τ:cw) (ad:Slot->Addr) (c:Slot->Option Ob) (st:iK) (x:Option Cell),Own τ ad c->Sem ad c st->ad .S = S->(∀ k∈ks,lk st.bJ k = none)->ks.Nodup->st.bJ.length+ks.length<=1000->
  Al (gm (gN 5) NF (ks.map Dv.str)) ⟨xO S a1 a2 a3 a4 a6 a8 ag b9 mo bb cs x,τ⟩ (λr=>∃ x' τ' ad' c',r = .nx ⟨xO S a1 a2 a3 a4 a6 a8 ag b9 mo bb cs x',τ'⟩/\Own τ' ad' c'/\Sem ad' c' { st with bJ:=st.bJ++ks.map λk=>(k,⟨ag,bb,b9,mo,[]⟩) }/\Bh ad c ad' c')
 | [],τ,ad,c,st,x,W,m,hS,_,_,_=>yY ⟨x,τ,ad,c,rfl,W,by simpa using m,.refl⟩
 | k::ks,τ,ad,c,st,x,W,m,hS,hk,hnd,hl=>by
   subst hS
   have k0:=hk k (List.mem_cons_self ..)
   refine uu (ρ1:=⟨xO (ad .S) a1 a2 a3 a4 a6 a8 ag b9 mo bb cs (some (.v (.str k))),τ⟩) rfl rfl (oO (kg (l:=[.str ag,.int bb,.str b9,.str mo]) rfl rfl λq hq=>(Cw aY).imp ?_))
   rintro r ⟨l,hl1,nl,rfl⟩
   obtain ⟨_,hl0⟩:=bK hl1
   replace hq:τ q = none:=hq
   replace hl0:τ l = none:=hl0
   have e1:aF (aF (aF τ q (.ins "Paper" [])) l (.ls [])) q (.ins "Paper" (ie (.str ag) (.int bb) (.str b9) (.str mo) l)) = aF (aF τ l (.ls [])) q (.ins "Paper" (ie (.str ag) (.int bb) (.str b9) (.str mo) l)):=by
    rw [iz (p:=q) (q:=l) (Ne.symm nl),fN]
   have W1:=W.new (s0:=.sgl k) (o:=.ls []) hl0
   have W2:=W1.new (s0:=.pap k) (p:=q) (o:=.ins "Paper" (ie (.str ag) (.int bb) (.str b9) (.str mo) l)) (by rw [dc (Ne.symm nl)]; exact hq)
   have cP:up (up c (.sgl k) (some (.ls []))) (.pap k) (some (.ins "Paper" (ie (.str ag) (.int bb) (.str b9) (.str mo) l))) .P = some (.dct (st.bJ.map λx=>((.inr x.1:Key),Dv.ob (ad (.pap x.1))))):=by
    rw [ar (s:=.pap k) (t:=.P) nofun,ar (s:=.sgl k) (t:=.P) nofun]; exact m.p
   have cS:up (up c (.sgl k) (some (.ls []))) (.pap k) (some (.ins "Paper" (ie (.str ag) (.int bb) (.str b9) (.str mo) l))) .S = some (.ins "Store" (fe (.lst (c8 st.lB)) (ad .B) (ad .P) (ad .R) (ad .C))):=by
    rw [ar (s:=.pap k) (t:=.S) nofun,ar (s:=.sgl k) (t:=.S) nofun]; exact m.s
   have aP:up (up ad (.sgl k) l) (.pap k) q .P = ad .P:=(ar (s:=.pap k) (t:=.P) nofun).trans (ar (s:=.sgl k) (t:=.P) nofun)
   have aS:up (up ad (.sgl k) l) (.pap k) q .S = ad .S:=(ar (s:=.pap k) (t:=.S) nofun).trans (ar (s:=.sgl k) (t:=.S) nofun)
   have W3:=W2.upd (o:=.dct ((st.bJ.map λx=>((.inr x.1:Key),Dv.ob (ad (.pap x.1))))++[(.inr k,.ob q)])) cP
   have hS2:=W2.at_ _ _ cS
   have hP2:=W2.at_ _ _ cP
   rw [aS] at hS2
   rw [aP] at hP2 W3
   show BP _ _ _ _ (.ok (.ob q) (aF (aF (aF τ q (.ins "Paper" [])) l (.ls [])) q (.ins "Paper" (ie (.str ag) (.int bb) (.str b9) (.str mo) l))))
   rw [e1]
   refine ⟨.ob q,_,ad .P,.str k,.inr k,_,rfl,vi hS2,rfl,rfl,hP2,?_,?_⟩
   ·rw [List.length_map]; have:=cM; simp only [List.length_cons] at hl; omega
   rw [uP (λx _=>.ob (ad (.pap x))) _ _ _ k0]
   have m3:=m.Fu k0 l q ag bb b9 mo
   have lk1:∀ k'∈ks,lk (st.bJ++[(k,(⟨ag,bb,b9,mo,[]⟩:AH))]) k' = none:=λk' hk'=>by
    rw [jQ,hk k' (List.mem_cons_of_mem _ hk'),Option.none_or,if_neg (λz:k = k'=>(List.nodup_cons.mp hnd).1 (by rw [z]; exact hk'))]
   refine Al.imp (vL ks _ _ _ _ _ W3 m3 aS lk1 (List.nodup_cons.mp hnd).2 (by simp only [List.length_append,List.length_cons,List.length_nil] at hl ⊢; omega)) ?_
   rintro r ⟨x',τ',ad',c',rfl,W',m',B'⟩
   refine ⟨x',τ',ad',c',rfl,W',?_,Bh.trans ⟨λn=>?_,λn=>?_,aS⟩ B'⟩
   ·simpa [List.append_assoc] using m'
   ·rw [ar (s:=.P) (t:=.x n) nofun,ar (s:=.pap k) (t:=.x n) nofun,ar (s:=.sgl k) (t:=.x n) nofun]
   ·rw [ar (s:=.pap k) (t:=.x n) nofun,ar (s:=.sgl k) (t:=.x n) nofun]
end
end My
end
section
namespace My
open PySem L2
abbrev nW (d:Int) (n:List Nat) (ag:Str) (s:List Nat) (bb:Int) (kind:Str) (h0:List Nat) (c:Nat):List Dv:=[.int d,.str (ao n),.str ag,.str (ao s),.int bb,.str kind,.str (ao h0),.int ((c:Nat):Int)]
def cm (n:List Nat) (c:Nat):List Str:=(List.range c).map λj=>ct n j
theorem xq (n:List Nat) (c:Nat):(cm n c).Nodup:=by
 unfold cm
 refine List.pairwise_map.mpr ((List.nodup_range (n:=c)).imp λne z=>ne (LV z))
section
def j4 (st:iK) (n:List Nat) (ag:Str) (s:List Nat) (bb:Int) (kind:Str) (h0:List Nat) (cc:Nat):iK:=
 { st with bJ:=st.bJ++(cm n cc).map λk=>(k,⟨ag,bb,ao h0,ix kind h0,[]⟩),bY:=st.bY++[(ao n,⟨ag,bb,kind,cm n cc⟩)] }
theorem yT (hn:n.length<=12) (hc:cc<=3) (W:Own τ ad c) (m:Sem ad c st) (hb:lk st.bY (ao n) = none) (hp:∀ k∈cm n cc,lk st.bJ k = none) (lb:st.bY.length<=1000) (lp:st.bJ.length<=900)
  (kk:∀ τ' ad' c' x,Own τ' ad' c'->Sem ad' c' (j4 st n ag s bb kind h0 cc)->Bh ad c ad' c'->Al (aX (kq (mT (gj true (mB 2) (bH ["Store"] "parcels" (mB 0)))) (kH (bH ["Store"] "parcels" (mB 0)) (mV 2) (fW "Parcel" 1 fE ai)) (ay aL))
   (aX (ay (bC 6 (bH ["Parcel"] "owed" (wN (bH ["Store"] "parcels" (mB 0)) (mB 2)))))
   (kH (mV 6) (m2 aw (mB 1) (mC (.int 4))) (dr (mC (.bl true)))))) ⟨xO (ad .S) (.str "give") (.int d) (.str (ao n)) (.str (ao s)) (.str kind) (.int ((cc:Nat):Int)) ag (ao h0) (ix kind h0) bb (some (.v (.lst ((cm n cc).map Dv.str)))) x,τ'⟩ (λr=>Φ (Bv r))):
  Ac gz τ [.ob (ad .S),.tup (.str "give"::nW d n ag s bb kind h0 cc)] Φ:=by
 refine d7 ?_
 refine aG (eJ (d:=.str ag) rfl ?_)
 have e3:∀ ρ:Ev,ρ[1]? = some (some (.v (.tup (.str "give"::nW d n ag s bb kind h0 cc))))->By (bO d4 (m2 aw (mB 1) (mC (.int 6))) (mC (.str "holder"))) (mC (.str "-")) (m2 aw (mB 1) (mC (.int 7))) ρ = .ok (.str (ix kind h0)):=λρ hρ=>by
  have eb:mB 1 ρ = .ok (.tup (.str "give"::nW d n ag s bb kind h0 cc)):=by unfold mB; rw [hρ]
  have e6:m2 aw (mB 1) (mC (.int 6)) ρ = .ok (.str kind):=by unfold m2; rw [eb]; rfl
  have e7:m2 aw (mB 1) (mC (.int 7)) ρ = .ok (.str (ao h0)):=by unfold m2; rw [eb]; rfl
  have et:bO d4 (m2 aw (mB 1) (mC (.int 6))) (mC (.str "holder")) ρ = .ok (decide (kind = "holder")):=by
   show ((m2 aw (mB 1) (mC (.int 6)) ρ).bind λx=>d4 x (.str "holder")).bind fY = _
   rw [e6]; rfl
  unfold By
  rw [et,Rs.aq]
  by_cases z:kind = "holder"
  ·simp [z,ix,mC]
  ·simp [z,ix,e7]
 refine aG (eJ (d:=.str (ix kind h0)) (e3 _ rfl) ?_)
 refine aG (El (l:=(cm n cc).map Dv.str) ?_ ?_)
 ·have ec:=jq (e:=aI (λτ l=>cb (h9 τ l)) (aa (m2 aw (mB 1) (mC (.int 2))) (aa (mV 0) ai))) (cap:=[some (.v (.tup (.str "give"::nW d n ag s bb kind h0 cc)))]) (τ:=τ)
   (λd=>match d with | .int i=>.str (ct n (i - 1).toNat) | d=>d) (eh 1 cc) none (λd hd=>by
    obtain ⟨j,hj,rfl⟩:=List.mem_map.mp hd
    have hj:=List.mem_range.mp hj
    show cb (h9 τ [.str (ao n),.int (1+ ((j:Nat):Int))]) = _
    rw [Jt hn (by omega)]
    show Rs.ok _ = Rs.ok _
    congr 3
    omega)
  have er:ua [.int 1,.int (((cc:Nat):Int)+1)] = .ok (eh 1 cc):=by
   unfold ua
   dsimp only
   have:=cM
   rw [if_pos (by omega)]
   congr 2
   omega
  show (ua [.int 1,.int (((cc:Nat):Int)+1)]).bind _ = _
  rw [er,Rs.aq]
  show cb (cE (gN 0) dC _ (eh 1 cc) (⟨[none,some (.v (.tup (.str "give"::nW d n ag s bb kind h0 cc)))],τ⟩:Ev)) = _
  rw [ec]
  show Rs.ok _ = Rs.ok _
  congr 1
  unfold eh cm
  rw [List.map_map,List.map_map]
  refine List.map_congr_left λj _=>?_
  show Dv.str (ct n (1+ ((j:Nat):Int) - 1).toNat) = _
  congr 2
  omega
 refine Ep rfl ?_
 refine aG (xF rfl ?_)
 refine Al.imp (vL (ag:=ag) (bb:=bb) (b9:=ao h0) (mo:=ix kind h0) (cm n cc) τ ad c st none W m rfl hp (xq n cc) (by unfold cm; rw [List.length_map,List.length_range]; omega)) ?_
 rintro r ⟨x',τ1,ad1,c1,rfl,W1,m1,B1⟩
 refine aG (oO (kg (l:=[.str ag,.int bb,.str kind,.lst ((cm n cc).map Dv.str)]) rfl rfl λbq hbq=>(En aY).imp ?_))
 rintro r rfl
 replace hbq:τ1 bq = none:=hbq
 have W2:=W1.new (s0:=.bT (ao n)) (o:=.ins "Bill" (lj (.str ag) (.int bb) (.str kind) (.lst ((cm n cc).map .str)))) hbq
 have cB:up c1 (.bT (ao n)) (some (.ins "Bill" (lj (.str ag) (.int bb) (.str kind) (.lst ((cm n cc).map .str))))) .B = some (.dct (st.bY.map λx=>((.inr x.1:Key),Dv.ob (ad1 (.bT x.1))))):=by
  rw [ar (s:=.bT (ao n)) (t:=.B) nofun]; exact m1.b
 have cS:up c1 (.bT (ao n)) (some (.ins "Bill" (lj (.str ag) (.int bb) (.str kind) (.lst ((cm n cc).map .str))))) .S = some (.ins "Store" (fe (.lst (c8 st.lB)) (ad1 .B) (ad1 .P) (ad1 .R) (ad1 .C))):=by
  rw [ar (s:=.bT (ao n)) (t:=.S) nofun]; exact m1.s
 have aB:up ad1 (.bT (ao n)) bq .B = ad1 .B:=ar (s:=.bT (ao n)) (t:=.B) nofun
 have aS:up ad1 (.bT (ao n)) bq .S = ad1 .S:=ar (s:=.bT (ao n)) (t:=.S) nofun
 have W3:=W2.upd (o:=.dct ((st.bY.map λx=>((.inr x.1:Key),Dv.ob (ad1 (.bT x.1))))++[(.inr (ao n),.ob bq)])) cB
 have hS2:=W2.at_ _ _ cS
 have hB2:=W2.at_ _ _ cB
 rw [aS,B1.aS] at hS2
 rw [aB] at hB2 W3
 show BP _ _ _ _ (.ok (.ob bq) (aF (aF τ1 bq (.ins "Bill" [])) bq (.ins "Bill" (lj (.str ag) (.int bb) (.str kind) (.lst ((cm n cc).map Dv.str))))))
 rw [fN]
 refine ⟨.ob bq,_,ad1 .B,.str (ao n),.inr (ao n),_,rfl,nM hS2,rfl,rfl,hB2,by rw [List.length_map]; have:=cM; omega,?_⟩
 rw [uP (λx _=>.ob (ad1 (.bT x))) _ _ _ hb]
 have m3:=m1.IC (k:=ao n) hb bq ⟨ag,bb,kind,cm n cc⟩
 refine kk _ _ _ _ W3 m3 (B1.trans ⟨λx=>?_,λx=>?_,aS⟩)
 ·rw [ar (s:=.B) (t:=.x x) nofun,ar (s:=.bT (ao n)) (t:=.x x) nofun]
 ·rw [ar (s:=.bT (ao n)) (t:=.x x) nofun]
end
end My
end
section
namespace My
open PySem L2
section
theorem yg {S:Addr} {a1 a2 a3 a6 a8:Dv} {b9 mo:Str} {cs x:Option Cell} {Φ:Rw->Prop} (W:Own τ ad c) (m:Sem ad c st) (hS:ad .S = S) (hk:lk st.aH ag = some q) (hl:q.fQ.length < 1000)
  (z:Φ (.ok .non (aF τ (ad (.owe ag)) (.dct (l5 (lN q.fQ (ao s))))))):
  Al (aX (ay (bC 6 (bH ["Parcel"] "owed" (wN (bH ["Store"] "parcels" (mB 0)) (mB 2))))) (kH (mV 6) (m2 aw (mB 1) (mC (.int 4))) (dr (mC (.bl true))))) ⟨xO S a1 a2 a3 (.str (ao s)) a6 a8 ag b9 mo bb cs x,τ⟩ (λr=>Φ (Bv r)):=by
 subst hS
 refine aG (eJ (d:=.ob (ad (.owe ag))) ?_ ?_)
 ·show (((di ["Store"] "parcels" τ (.ob (ad .S))).bind λd=>getD τ d (.str ag)).bind (di ["Parcel"] "owed" τ)) = _
  rw [JX W m hk]
  exact Jc (LH W m hk)
 ·refine oO (Bb (d:=.bl true) rfl ⟨.bl true,τ,ad (.owe ag),.str (ao s),.inr (ao s),l5 q.fQ,rfl,rfl,rfl,rfl,LC W m hk,by rw [List.length_map]; have:=cM; omega,?_⟩)
  rw [Iv]
  exact z
theorem Gj (hn:n.length<=12) (hc:cc<=3) (W:Own τ ad c) (m:Sem ad c st) (hb:lk st.bY (ao n) = none) (hp:∀ k∈cm n cc,lk st.bJ k = none) (lb:st.bY.length<=1000) (lp:st.bJ.length<=900) (hk:lk st.aH ag = some q) (hl:q.fQ.length < 1000):
  Ac gz τ [.ob (ad .S),.tup (.str "give"::nW d n ag s bb kind h0 cc)] (λr=>∃ τ' ad' c',r = .ok .non τ'/\Own τ' ad' c'/\Sem ad' c' (uq (j4 st n ag s bb kind h0 cc) ag { q with fQ:=lN q.fQ (ao s) })/\Bh ad c ad' c'):=by
 refine yT hn hc W m hb hp lb lp λτ' ad' c' x W' m' B'=>?_
 have hk':lk (j4 st n ag s bb kind h0 cc).aH ag = some q:=hk
 refine aG (qc ?_ (ke ?_))
 ·show ((di ["Store"] "parcels" τ' (.ob (ad .S))).bind λd=>m6 true τ' d (.str ag)).bind fY = _
  rw [←B'.aS,gO (fc W' m'),Rs.aq]
  unfold m6
  rw [dY (W'.at_ _ _ m'.cp)]
  show Rs.bind (Rs.ok (Dv.bl (xor true (fb _ (.inr ag)).isSome))) fY = _
  rw [Ae hk']
  rfl
 ·refine yg (Φ:=λr=>∃ τ' ad' c',r = .ok .non τ'/\Own τ' ad' c'/\Sem ad' c' (uq (j4 st n ag s bb kind h0 cc) ag { q with fQ:=lN q.fQ (ao s) })/\Bh ad c ad' c') W' m' B'.aS hk' hl ?_
  exact ⟨_,ad',_,rfl,W'.upd (m'.bB ag q hk').2.1,m'.Hn hk' _,B'.trans ⟨λx=>ar (s:=.owe ag) (t:=.x x) nofun,λ_=>rfl,rfl⟩⟩
theorem Gv (hn:n.length<=12) (hc:cc<=3) (W:Own τ ad c) (m:Sem ad c st) (hb:lk st.bY (ao n) = none) (hp:∀ k∈cm n cc,lk st.bJ k = none) (lb:st.bY.length<=1000) (lp:st.bJ.length<=900) (hk:lk st.aH ag = none) (lc:st.aH.length<=900):
  Ac gz τ [.ob (ad .S),.tup (.str "give"::nW d n ag s bb kind h0 cc)] (λr=>∃ τ' ad' c' st',r = .ok .non τ'/\Own τ' ad' c'/\Sem ad' c' st'/\Bh ad c ad' c'/\st' = uq { j4 st n ag s bb kind h0 cc with aH:=st.aH++[(ag,⟨[],[]⟩)] } ag ⟨lN [] (ao s),[]⟩):=by
 refine yT hn hc W m hb hp lb lp λτ' ad' c' x W' m' B'=>?_
 have hk':lk (j4 st n ag s bb kind h0 cc).aH ag = none:=hk
 refine aG (sS ?_ (oO (kg (l:=[]) rfl rfl λpc hpc=>(Aa aY).imp ?_)))
 ·show ((di ["Store"] "parcels" τ' (.ob (ad .S))).bind λd=>m6 true τ' d (.str ag)).bind fY = _
  rw [←B'.aS,gO (fc W' m'),Rs.aq]
  unfold m6
  rw [dY (W'.at_ _ _ m'.cp)]
  show Rs.bind (Rs.ok (Dv.bl (xor true (fb _ (.inr ag)).isSome))) fY = _
  rw [ye (λx _=>.ob (ad' (.bB x))),hk']
  rfl
 rintro r ⟨o,sp,ho,hsp,no,nsp,nso,rfl⟩
 replace hpc:τ' pc = none:=hpc
 obtain ⟨_,ho⟩:=bK ho
 obtain ⟨_,hsp⟩:=bK hsp
 replace ho:τ' o = none:=ho
 replace hsp:τ' sp = none:=hsp
 have W1:=W'.new (s0:=.owe ag) (o:=.dct []) ho
 have W2:=W1.new (s0:=.stp ag) (p:=sp) (o:=.dct []) (by rw [dc nso]; exact hsp)
 have W3:=W2.new (s0:=.bB ag) (p:=pc) (o:=.ins "Parcel" (lX o sp)) (by rw [dc (Ne.symm nsp),dc (Ne.symm no)]; exact hpc)
 have e5:aF (aF (aF (aF τ' pc (.ins "Parcel" [])) o (.dct [])) sp (.dct [])) pc (.ins "Parcel" (lX o sp)) = aF (aF (aF τ' o (.dct [])) sp (.dct [])) pc (.ins "Parcel" (lX o sp)):=by
  rw [iz (p:=pc) (q:=o) (Ne.symm no),iz (p:=pc) (q:=sp) (Ne.symm nsp),fN]
 have cC:up (up (up c' (.owe ag) (some (.dct []))) (.stp ag) (some (.dct []))) (.bB ag) (some (.ins "Parcel" (lX o sp))) .C = some (.dct (st.aH.map λx=>((.inr x.1:Key),Dv.ob (ad' (.bB x.1))))):=by
  rw [ar (s:=.bB ag) (t:=.C) nofun,ar (s:=.stp ag) (t:=.C) nofun,ar (s:=.owe ag) (t:=.C) nofun]; exact m'.cp
 have cS:up (up (up c' (.owe ag) (some (.dct []))) (.stp ag) (some (.dct []))) (.bB ag) (some (.ins "Parcel" (lX o sp))) .S = some (.ins "Store" (fe (.lst (c8 st.lB)) (ad' .B) (ad' .P) (ad' .R) (ad' .C))):=by
  rw [ar (s:=.bB ag) (t:=.S) nofun,ar (s:=.stp ag) (t:=.S) nofun,ar (s:=.owe ag) (t:=.S) nofun]; exact m'.s
 have aC:up (up (up ad' (.owe ag) o) (.stp ag) sp) (.bB ag) pc .C = ad' .C:=(ar (s:=.bB ag) (t:=.C) nofun).trans ((ar (s:=.stp ag) (t:=.C) nofun).trans (ar (s:=.owe ag) (t:=.C) nofun))
 have aS:up (up (up ad' (.owe ag) o) (.stp ag) sp) (.bB ag) pc .S = ad' .S:=(ar (s:=.bB ag) (t:=.S) nofun).trans ((ar (s:=.stp ag) (t:=.S) nofun).trans (ar (s:=.owe ag) (t:=.S) nofun))
 have ax:∀ x,up (up (up ad' (.owe ag) o) (.stp ag) sp) (.bB ag) pc (.x x) = ad' (.x x):=λx=>(ar (s:=.bB ag) (t:=.x x) nofun).trans ((ar (s:=.stp ag) (t:=.x x) nofun).trans (ar (s:=.owe ag) (t:=.x x) nofun))
 have W4:=W3.upd (o:=.dct ((st.aH.map λx=>((.inr x.1:Key),Dv.ob (ad' (.bB x.1))))++[(.inr ag,.ob pc)])) cC
 have hS2:=W3.at_ _ _ cS
 have hC2:=W3.at_ _ _ cC
 rw [aS,B'.aS] at hS2
 rw [aC] at hC2 W4
 show BP _ _ _ _ (.ok (.ob pc) (aF (aF (aF (aF τ' pc (.ins "Parcel" [])) o (.dct [])) sp (.dct [])) pc (.ins "Parcel" (lX o sp))))
 rw [e5]
 refine ⟨.ob pc,_,ad' .C,.str ag,.inr ag,_,rfl,gO hS2,rfl,rfl,hC2,by rw [List.length_map]; have:=cM; omega,?_⟩
 rw [uP (λx _=>.ob (ad' (.bB x))) st.aH _ _ hk]
 have m4:=m'.Ek hk' o sp pc
 have hk4:lk ({ j4 st n ag s bb kind h0 cc with aH:=(j4 st n ag s bb kind h0 cc).aH++[(ag,⟨[],[]⟩)] }:iK).aH ag = some ⟨[],[]⟩:=by
  show lk (st.aH++[(ag,(⟨[],[]⟩:ly))]) ag = _
  rw [jQ,hk,Option.none_or,if_pos rfl]
 refine yg (Φ:=λr=>∃ τ' ad' c' st',r = .ok .non τ'/\Own τ' ad' c'/\Sem ad' c' st'/\Bh ad c ad' c'/\st' = uq { j4 st n ag s bb kind h0 cc with aH:=st.aH++[(ag,⟨[],[]⟩)] } ag ⟨lN [] (ao s),[]⟩) W4 m4 (aS.trans B'.aS) hk4 (by show (0:Nat) < 1000; decide) ?_
 refine ⟨_,_,_,_,rfl,W4.upd (m4.bB ag _ hk4).2.1,m4.Hn hk4 _,B'.trans ⟨λx=>?_,ax,aS⟩,rfl⟩
 rw [ar (s:=.owe ag) (t:=.x x) nofun,ar (s:=.C) (t:=.x x) nofun,ar (s:=.bB ag) (t:=.x x) nofun,ar (s:=.stp ag) (t:=.x x) nofun,ar (s:=.owe ag) (t:=.x x) nofun]
end
end My
end
section
namespace My
open PySem L2
section
theorem Aq (r:List Dv) (x:Dv):aw (.lst (r++[x])) (.int (-1)) = .ok x:=by
 have e:fC (r++[x]) (-1) = some x:=by
  unfold fC kE
  simp only [List.length_append,List.length_cons,List.length_nil]
  rw [if_neg (by decide),if_pos (by omega)]
  show (r++[x])[_]? = _
  rw [show (-1+ ((r.length+ (0+1):Nat):Int)).toNat = r.length from by omega]
  simp
 unfold aw
 dsimp only
 rw [e]
theorem eI (h:a ρ = .ok (.nx ρ')):aT a b ρ = b ρ':=by
 unfold aT; rw [h]; rfl
theorem mG (n:Nat) (h:l[n]? = some d):aw (.lst l) (.int n) = .ok d:=by
 have e:fC l ((n:Nat):Int) = some d:=mw h
 unfold aw
 dsimp only
 rw [e]
theorem EL (n:Nat) (h:l[n]? = some d):aw (.tup l) (.int n) = .ok d:=by
 have e:fC l ((n:Nat):Int) = some d:=mw h
 unfold aw
 dsimp only
 rw [e]
section
end
end
section
theorem uG (h:n<=1000):j7 [.int (n:Nat)] = .ok (eh 0 n):=by
 show (if ((n:Nat):Int)<=sizeLine/\-(2 ^ 62)<=((n:Nat):Int) then Rs.ok (eh 0 ((n:Nat):Int).toNat) else .bad) = _
 rw [if_pos ⟨by have:=cM; omega,by omega⟩]
 rfl
theorem Fi {α:Type} (l:List α):lT (.lst (l.map λ_=>Dv.bl true)) = .ok (.bl true):=by
 show (match j2 (l.map λ_=>Dv.bl true) with | some bs=>Rs.ok (Dv.bl (bs.all id)) | none=>.bad) = _
 rw [uI (λ_=>true)]
 simp
def A1 (t:Bool) (l:List Dv):Dv:=if t then .tup l else .lst l
inductive Sm (τ:cw):Nat->Dv->Dv->Prop where
 | int (n:Nat) (i:Int):Sm τ n (.int i) (.int i)
 | str (n:Nat) (s:Str):Sm τ n (.str s) (.str s)
 | bl (n:Nat) (b:Bool):Sm τ n (.bl b) (.bl b)
 | sq {n:Nat} {t:Bool} {l l':List Dv} {d d':Dv} (h1:nj τ d = .ok (A1 t l)) (h2:nj τ d' = .ok (A1 t l')) (h:∀ (i:Nat) (x y:Dv),l[i]? = some x->l'[i]? = some y->Sm τ n x y) (hl:l.length = l'.length) (hb:l.length<=1000):Sm τ (n+1) d d'
theorem F7 (i:Int):nj τ (.int i) = .ok (.int i):=rfl
theorem sQ (b:Bool):mJ (.bl b) (.bl b) = .ok (.bl false):=by cases b <;> rfl
theorem Jx (a:Nat):mJ (.int (a:Nat)) (.int (a:Nat)) = .ok (.bl false):=by
 show (match (some (decide (((a:Nat):Int) = a)):Option Bool) with | some k=>Rs.ok (Dv.bl (!k)) | none=>.bad) = _
 rw [decide_eq_true rfl]; rfl
theorem HQ (t:Bool) (n:Nat) (h:l[n]? = some d):aw (A1 t l) (.int n) = .ok d:=by
 cases t
 ·exact mG n h
 ·exact EL n h
theorem Ez (t:Bool) (l:List Dv):b6 (A1 t l) = .ok (.int (l.length:Nat)):=by cases t <;> rfl
theorem mX:∀ {n:Nat} {d d':Dv},Sm τ n d d'->ba (n+1) τ [d,d'] = .ok (.bl true):=by
 intro n d d' h
 induction h with
 | int n i=>simp [ba,gd,aV,dQ,aE,aT,dk,bP,aQ,aL,mB,mC,m1,m2,bO,bU,rn,d5,cJ,gk,Rs.aq,cF,Dv.kind,gG,Ev.bG,Dv.iu,b7,nj,sQ,d4,ou]
 | bl n b=>cases b <;> simp [ba,gd,aV,dQ,aE,aT,dk,bP,aQ,aL,mB,mC,m1,m2,bO,bU,rn,d5,cJ,gk,Rs.aq,cF,Dv.kind,gG,Ev.bG,Dv.iu,b7,nj,sQ,d4,ou]
 | str n s=>simp [ba,gd,aV,dQ,aE,aT,dk,bP,aQ,aL,mB,mC,m1,m2,bO,bU,rn,d5,cJ,gk,Rs.aq,cF,Dv.kind,gG,Ev.bG,Dv.iu,b7,nj,sQ,d4,ou]
 | @sq n t l l' d d' h1 h2 h hl hb ih=>
   have e1:=Ez t l
   have e1':=Ez t l'
   have e2:=Jx l'.length
   rw [hl] at e1
   have cp:cH (jI (aa (m1 b6 (b7 (mB 1))) ai)) 1 [0,1] (gN 0) dC (aI (λτ l=>cb (ba (n+1) τ l)) (aa (m2 aw (b7 (mB 1)) (b7 (mB 0))) (aa (m2 aw (b7 (mB 2)) (b7 (mB 0))) ai))) (⟨[some (.v d),some (.v d')],τ⟩:Ev) = .ok ((eh 0 l'.length).map λ_=>Dv.bl true):=by
    have e:jI (aa (m1 b6 (b7 (mB 1))) ai) (⟨[some (.v d),some (.v d')],τ⟩:Ev) = .ok (eh 0 l'.length):=by
     show (((nj τ d').bind b6).bind λx=>Rs.ok [x]).bind j7 = _
     rw [h2,Rs.aq,e1',Rs.aq,Rs.aq]
     exact uG (by omega)
    unfold cH
    rw [e,Rs.aq]
    show cb (cE (gN 0) dC _ (eh 0 l'.length) (⟨[none,some (.v d),some (.v d')],τ⟩:Ev)) = _
    rw [jq (cap:=[some (.v d),some (.v d')]) (λ_=>.bl true) _ _ (λe he=>?_)]
    ·rfl
    ·obtain ⟨i,hi,rfl⟩:=List.mem_map.mp he
     have hi:=List.mem_range.mp hi
     have hi':i < l.length:=by omega
     have et:=HQ t i (List.getElem?_eq_getElem hi')
     have et':=HQ t i (List.getElem?_eq_getElem hi)
     have es:=ih i l[i] l'[i] (List.getElem?_eq_getElem hi') (List.getElem?_eq_getElem hi)
     simp [mB,m2,ai,aa,aI,Rs.aq,Bc,Ev.bG,b7,h1,h2,F7,et,et',es]
   have al:lT (.lst ((eh 0 l'.length).map λ_=>Dv.bl true)) = .ok (.bl true):=Fi _
   show aV 2 2 (gd (ba (n+1))) τ [d,d'] = _
   clear ih
   generalize ba (n+1) = rc at cp ⊢
   simp only [gd]
   cases t
   ·simp only [A1,Bool.false_eq_true,if_false] at h1 h2 e1 e1'
    simp [aV,dQ,aE,aT,dk,oJ,bP,aQ,aL,mB,mC,m1,m2,bW,bO,bU,d5,cJ,gk,Rs.aq,cF,Dv.kind,gG,Ev.bG,Dv.iu,b7,h1,h2,sQ,e1,e1',e2,cp,al]
   ·simp only [A1,if_true] at h1 h2 e1 e1'
    simp [aV,dQ,aE,aT,dk,oJ,bP,aQ,aL,mB,mC,m1,m2,bW,bO,bU,d5,cJ,gk,Rs.aq,cF,Dv.kind,gG,Ev.bG,Dv.iu,b7,h1,h2,sQ,e1,e1',e2,cp,al]
theorem Mx (ns:List Int) (p:Nat):∃ b:Int,jx τ [.seq (ns.map .int),.int p] = .ok (.int b)/\0<=b/\b < 3670344486987776:=by
 have e1:=y6 (τ:=τ) ns p
 by_cases h:eY ns p % 3 = 0
 ·refine ⟨eY ns p / 3 % 700,?_,Int.emod_nonneg _ (by decide),?_⟩
  ·have e2:d4 (.int (eY ns p % 3)) (.int 0) = .ok (.bl true):=by rw [h]; rfl
   have e2':d4 (.int 0) (.int 0) = .ok (.bl true):=rfl
   simp [jx,lW,aV,dQ,aE,aT,dk,oJ,bC,bP,aQ,aL,mV,mB,mC,m1,m2,ai,aa,aI,bO,cJ,Rs.aq,dL,Ev.bG,Ev.set_mk,e1,h,e2']
  ·have:=Int.emod_lt_of_pos (eY ns p / 3) (show (0:Int) < 700 by decide)
   omega
 ·refine ⟨eY ns p / 3 * 48271 % 3670344486987776,?_,Int.emod_nonneg _ (by decide),Int.emod_lt_of_pos _ (by decide)⟩
  have e2:d4 (.int (eY ns p % 3)) (.int 0) = .ok (.bl false):=by
   show (match (some (decide (eY ns p % 3 = 0)):Option Bool) with | some k=>Rs.ok (Dv.bl k) | none=>.bad) = _
   rw [decide_eq_false h]
  have e3:Co (.int (eY ns p / 3 * 48271)) (.int (26 ^ (11:Int).toNat)) = .ok (.int (eY ns p / 3 * 48271 % 3670344486987776)):=by
   rw [show ((26:Int) ^ (11:Int).toNat) = 3670344486987776 from by decide +kernel]
   show (if (0:Int) < 3670344486987776 then Rs.ok _ else Rs.bad) = _
   rw [if_pos (by decide)]
  have e3':m2 Co (m1 (iU 48271) (m1 (ig 3) (mB 2))) (mC (.int (26 ^ (11:Int).toNat))) (⟨[some (.v (.seq (ns.map .int))),some (.v (.int p)),some (.v (.int (eY ns p)))],τ⟩:Ev) = .ok (.int (eY ns p / 3 * 48271 % 3670344486987776)):=e3
  refine gL rfl ?_
  unfold lW
  refine (eI (ρ':=⟨[some (.v (.seq (ns.map .int))),some (.v (.int p)),some (.v (.int (eY ns p)))],τ⟩) ?_).trans ?_
  ·simp [aE,bC,mV,ai,aa,aI,Rs.aq,Ev.bG,Ev.set_mk,e1]
  refine (eI (ρ':=⟨[some (.v (.seq (ns.map .int))),some (.v (.int p)),some (.v (.int (eY ns p)))],τ⟩) ?_).trans ?_
  ·simp [bP,aQ,aL,mB,mC,m1,m2,bO,cJ,Rs.aq,dL,Ev.bG,e2]
  ·unfold aQ
   rw [e3']
   rfl
def nN (b:Int) (m:Nat):List (List Nat):=(List.range m).map λi=>cj (b+ (i:Nat))
theorem KY (ns:List Int) (p m:Nat) (hm:m<=40):∃ b:Int,jy τ [.seq (ns.map .int),.int p,.int m] = .ok (.lst (c8 (nN b m)))/\0<=b/\b < 3670344486987776:=by
 obtain ⟨b,e1,h0,h1⟩:=Mx (τ:=τ) ns p
 refine ⟨b,?_,h0,h1⟩
 have cp:cH (jI (aa (mV 2) ai)) 1 [3] (gN 0) dC (aI (λτ l=>cb (cV τ l)) (aa (m2 bX (mB 1) (mB 0)) ai)) (⟨[some (.v (.seq (ns.map .int))),some (.v (.int p)),some (.v (.int m)),some (.v (.int b))],τ⟩:Ev) = .ok (c8 (nN b m)):=by
  show (j7 [.int m]).bind _ = _
  rw [uG (by omega),Rs.aq]
  show cb (cE (gN 0) dC _ (eh 0 m) (⟨[none,some (.v (.int b))],τ⟩:Ev)) = _
  rw [jq (cap:=[some (.v (.int b))]) (λd=>match d with | .int i=>.str (ao (cj (b+i))) | d=>d) _ _ (λe he=>?_)]
  ·show Rs.ok _ = Rs.ok _
   congr 1
   unfold eh c8 nN
   rw [List.map_map,List.map_map]
   refine List.map_congr_left λi _=>?_
   show Dv.str (ao (cj (b+ (0+ ((i:Nat):Int))))) = _
   rw [Int.zero_add]
   rfl
  ·obtain ⟨i,hi,rfl⟩:=List.mem_map.mp he
   show cb (cV τ [.int (b+ (0+ ((i:Nat):Int)))]) = _
   rw [vq]
   rfl
 refine gL rfl ?_
 unfold qw
 refine (eI (ρ':=⟨[some (.v (.seq (ns.map .int))),some (.v (.int p)),some (.v (.int m)),some (.v (.int b))],τ⟩) ?_).trans ?_
 ·simp [aE,bC,mV,ai,aa,aI,Rs.aq,Ev.bG,Ev.set_mk,e1]
 ·unfold aQ bW
  rw [cp]
  rfl
theorem DY (h0:0<=b):∀ n∈nN b m,cA n = true:=λn hn=>by
 obtain ⟨i,_,rfl⟩:=List.mem_map.mp hn
 exact iy (by omega)
section
theorem L4 (W:Own τ ad c) (m:Sem ad c st) (hb:lk st.bY t = none):fD τ [.ob (ad .S),.lst [.str t]] = .ok .non:=by
 have e1:fb (st.bY.map λx=>((.inr x.1:Key),Dv.ob (ad (.bT x.1)))) (.inr t) = none:=by rw [ye (λx _=>.ob (ad (.bT x))),hb]; rfl
 simp [fD,jZ,nV,eu,nE,aV,mq,aE,bP,bS,aL,mV,mB,mT,d5,cJ,Rs.aq,Bc,cX,mj,gN,Ev.bG,Ev.set_mk,gj,bH,nM (fc W m),GY (fc W m),m6,dY (W.at_ _ _ m.b),dY (W.at_ _ _ m.r),kP,e1,Gu]
theorem Im (W:Own τ ad c) (m:Sem ad c st) (hs:s∈st.lB) (hh:h0∈st.lB) (hb:lk st.bY (ao n) = none) (lb:st.bY.length < 100) (lc:st.aH.length < 60):fI τ [.ob (ad .S),.tup (.str "give"::nW d n ag s bb kind h0 cc)] = .ok .non:=by
 have e1:=Jj (fc W m) [s,h0] (by simp [hs,hh])
 have e2:=L4 (t:=ao n) W m hb
 simp only [List.map_cons,List.map_nil] at e1
 have i2:∀ a b c d e f g k m:Dv,aw (.tup [a,b,c,d,e,f,g,k,m]) (.int 2) = .ok c:=λ_ _ _ _ _ _ _ _ _=>rfl
 have i3:∀ a b c d e f g k m:Dv,aw (.tup [a,b,c,d,e,f,g,k,m]) (.int 3) = .ok d:=λ_ _ _ _ _ _ _ _ _=>rfl
 have i4:∀ a b c d e f g k m:Dv,aw (.tup [a,b,c,d,e,f,g,k,m]) (.int 4) = .ok e:=λ_ _ _ _ _ _ _ _ _=>rfl
 have i7:∀ a b c d e f g k m:Dv,aw (.tup [a,b,c,d,e,f,g,k,m]) (.int 7) = .ok k:=λ_ _ _ _ _ _ _ _ _=>rfl
 have l1:¬(60:Int)<=((st.aH.length:Nat):Int):=by omega
 have l2:¬(100:Int)<=((st.bY.length:Nat):Int):=by omega
 cases z:fb (st.aH.map λx=>((.inr x.1:Key),Dv.ob (ad (.bB x.1)))) (.inr ag) with
 | none=>simp [fI,kJ,aV,mq,aE,aT,dk,eW,bP,bS,aL,mV,mB,mC,m2,ai,aa,bW,aI,bO,mT,dH,cJ,Rs.aq,mE,Ev.bG,i2,i3,i4,i7,e1,e2,gj,tK,bH,gO (fc W m),nM (fc W m),m6,Cn,dY (W.at_ _ _ m.cp),dY (W.at_ _ _ m.b),kP,z,sj,l1,l2]
 | some v=>simp [fI,kJ,aV,mq,aE,aT,dk,eW,bP,bS,aL,mV,mB,mC,m2,ai,aa,bW,aI,bO,mT,dH,cJ,Rs.aq,mE,Ev.bG,i2,i3,i4,i7,e1,e2,gj,tK,bH,gO (fc W m),nM (fc W m),m6,Cn,dY (W.at_ _ _ m.cp),dY (W.at_ _ _ m.b),kP,z,sj,l2]
end
theorem rg (h:s ρ = .ok (.nx ρ)) (k:Φ (.nx ρ)):Al (ay s) ρ Φ:=js h rfl k
section
end
end
section
section
theorem uz (h:cA a = true):PyData.strOk (ao a) = true:=by
 unfold PyData.strOk
 unfold cA at h
 rw [Bool.and_eq_true,List.all_eq_true] at h
 show a.toArray.all _ = true
 rw [List.all_toArray,List.all_eq_true]
 intro x hx
 have:=h.2 x hx
 unfold ku at this
 simp at this
 exact decide_eq_true (by omega)
theorem Jl (l:List Str):strsOf (l.map Dv.str) = some l:=by
 induction l with
 | nil=>rfl
 | cons x r ih=>
   rw [List.map_cons]
   unfold strsOf
   rw [ih]; rfl
theorem Nf {l:List Str} (h:l.length < 64):rJ (.lst (l.map Dv.str)) = .ok (.lst ((fv l).map Dv.str)):=by
 unfold rJ
 dsimp only
 rw [Jl]
 dsimp only
 rw [if_pos h]
theorem Ju (n:Nat) {l:List Str} (h:l.length<=1000):Sm τ (n+1) (.lst (l.map Dv.str)) (.lst (l.map Dv.str)):=.sq (t:=false) (l:=l.map Dv.str) (l':=l.map Dv.str) rfl rfl (λi x y hx hy=>by
 rw [hx] at hy
 cases hy
 rw [List.getElem?_map] at hx
 obtain ⟨s,_,rfl⟩:=Option.map_eq_some_iff.mp hx
 exact .str n s) rfl (by rw [List.length_map]; exact h)
end
end
section
theorem yW (h:ms ρ = .ok l):aI f ms ρ = f ρ.t l:=by unfold aI; rw [h]; rfl
theorem bA (ha:a ρ = .ok x) (hr:r ρ = .ok l):aa a r ρ = .ok (x::l):=by unfold aa; rw [ha,Rs.aq,hr]; rfl
section
end
end
section
section
end
section
theorem Sem.Kl (m:Sem ad c st) (p:Addr):Sem (up ad (.x n) p) (up c (.x n) o) st:=by
 have an:∀ s,s≠.x n->up ad (.x n) p s = ad s:=λs h=>ar h
 have cn:∀ s,s≠.x n->up c (.x n) o s = c s:=λs h=>ar h
 refine ⟨?_,?_,?_,?_,?_,λk' b e=>?_,λk' b e=>?_,λk' b e=>?_,λk' e=>?_,λk' e=>?_,λk' e=>?_⟩
 ·rw [cn .S nofun,an .B nofun,an .P nofun,an .R nofun,an .C nofun]; exact m.s
 ·rw [cn .B nofun,m.b,f6 (f:=λk=>ad (.bT k)) (g:=λk'=>up ad (.x n) p (.bT k')) λk' _ _=>(an (.bT k') nofun).symm]
 ·rw [cn .P nofun,m.p,f6 (f:=λk=>ad (.pap k)) (g:=λk'=>up ad (.x n) p (.pap k')) λk' _ _=>(an (.pap k') nofun).symm]
 ·rw [cn .R nofun]; exact m.r
 ·rw [cn .C nofun,m.cp,f6 (f:=λk=>ad (.bB k)) (g:=λk'=>up ad (.x n) p (.bB k')) λk' _ _=>(an (.bB k') nofun).symm]
 ·rw [cn (.bT k') nofun]; exact m.bT k' b e
 ·rw [cn (.pap k') nofun,cn (.sgl k') nofun,an (.sgl k') nofun]; exact m.pap k' b e
 ·rw [cn (.bB k') nofun,cn (.owe k') nofun,cn (.stp k') nofun,an (.owe k') nofun,an (.stp k') nofun]; exact m.bB k' b e
 ·rw [cn (.bT k') nofun]; exact m.nb k' e
 ·rw [cn (.pap k') nofun,cn (.sgl k') nofun]; exact m.np k' e
 ·rw [cn (.bB k') nofun,cn (.owe k') nofun,cn (.stp k') nofun]; exact m.nc k' e
theorem NB {α:Type} {f:Slot->α} {s:Slot}:up f s (f s) = f:=by
 funext t
 by_cases h:t = s
 ·rw [h,bw]
 ·rw [ar h]
theorem Sem.xc (m:Sem ad c st):Sem ad (up c (.x n) o) st:=by
 have:=m.Kl (n:=n) (o:=o) (ad (.x n))
 rwa [NB] at this
end
section
end
end
section
theorem n9 (h:a ρ = .ok true):dH a b ρ = b ρ:=by unfold dH; rw [h]; rfl
theorem uW (h:a ρ = .ok false):dH a b ρ = .ok false:=by unfold dH; rw [h]; rfl
theorem uf (h:t ρ = .ok true):bP t a b ρ = a ρ:=by unfold bP; rw [h]; rfl
theorem hX (h:t ρ = .ok false):bP t a b ρ = b ρ:=by unfold bP; rw [h]; rfl
theorem Ay (hr:r ρ = .ok l):gp r ρ = .ok (.tup l):=by unfold gp; rw [hr]; rfl
theorem IH (h:m ρ = .ok d):bC i m ρ = .ok (.nx (ρ.set i (some (.v d)))):=by unfold bC; rw [h]; rfl
section
end
end
section
section
theorem CA (h:cA n = true):n.length<=12:=by unfold cA at h; simp at h; omega
end
end
section
theorem sV (I:Nat->Ev->Prop) (hs:∀ k ρ,k < N->I k ρ->∃ ρ1,g (.int (k:Nat)) ρ = .ok ρ1/\ρ1.t = ρ.t/\Al b ρ1 (λr=>∃ ρ',r = .nx ρ'/\I (k+1) ρ')):∀ (n k:Nat) (ρ:Ev),k+n = N->I k ρ->Al (gm g b ((List.range' k n).map λj=>Dv.int (j:Nat))) ρ (λr=>∃ ρ',r = .nx ρ'/\I N ρ')
 | 0,k,ρ,e,h=>yY ⟨ρ,rfl,by rw [←e]; exact h⟩
 | n+1,k,ρ,e,h=>by
   obtain ⟨ρ1,h1,h2,h3⟩:=hs k ρ (by omega) h
   rw [List.range'_succ,List.map_cons]
   refine uu h1 h2 (h3.imp ?_)
   rintro r ⟨ρ',rfl,h'⟩
   exact sV I hs n (k+1) ρ' (by omega) h'
theorem Lj (n:Nat):eh 0 n = (List.range' 0 n).map λj=>Dv.int (j:Nat):=by
 unfold eh
 rw [List.range_eq_range']
 exact List.map_congr_left λj _=>by rw [Int.zero_add]
section
end
end
section
theorem gE (ha:a ρ = .ok l) (hf:f ρ.t l = .ok d):aI f a ρ = .ok d:=(yW ha).trans hf
theorem IK (h:m ρ = .ok d) (hi:ρ[i]? = some (some (.m l))) (hl:l.length < sizeLine) (k:Φ (.nx (ρ.set i (some (.m (l++[d])))))):Al (ay (ju i m)) ρ Φ:=js (ρ':=ρ.set i (some (.m (l++[d])))) (by unfold ju; rw [hi]; dsimp only; rw [h,Rs.aq,if_pos hl]) rfl k
end
end My
end
section
namespace My
open PySem L2
structure Ln where
 day:Int
 k:Nat
 st:Bool
abbrev pN:Str:=ao [112]
abbrev BH (h:List Nat) (x:Ln):List Dv:=nW x.day (cj (x.k:Nat)) pN h (1+ (x.k:Nat)) "holder" h 1
abbrev aN (h:List Nat) (x:Ln):Dv:=.tup (.str "give"::BH h x)
abbrev bu (h:List Nat) (x:Ln):Dv:=.tup [aN h x,.bl x.st]
def dO:Nat->List Ln->List (Key×Dv)
 | _,[]=>[]
 | n,x::r=>if x.st = true then dO (n+1) r else (.inl (1+ (n:Nat)),.bl true)::dO (n+1) r
theorem pT:∀ (L:List Ln) (n:Nat) (x:Ln),dO n (L++[x]) = dO n L++(if x.st = true then [] else [(.inl (1+ ((n+L.length:Nat):Int)),.bl true)])
 | [],n,x=>by
   show dO n [x] = []++_
   unfold dO
   split <;> rfl
 | y::r,n,x=>by
   show dO n (y::(r++[x])) = _
   unfold dO
   have e:=pT r (n+1) x
   have z:n+1+r.length = n+ (y::r).length:=by simp only [List.length_cons]; omega
   rw [z] at e
   split
   ·exact e
   ·rw [e]; rfl
theorem uL:∀ (L:List Ln) (n:Nat) (i:Int) (d:Dv),((.inl i:Key),d)∈dO n L->1+ (n:Nat)<=i/\i < 1+ (n:Nat)+L.length
 | [],_,_,_,h=>nomatch h
 | y::r,n,i,d,h=>by
   unfold dO at h
   have ih:=uL r (n+1) i d
   simp only [List.length_cons]
   split at h
   ·have:=ih h; omega
   ·rcases List.mem_cons.mp h with e | e
    ·cases e; omega
    ·have:=ih e; omega
theorem FO (h:∀ p∈l,p.1≠k):fb l k = none:=by
 induction l with
 | nil=>rfl
 | cons p r ih=>rw [nK (h p (List.mem_cons_self ..)),ih λq hq=>h q (List.mem_cons_of_mem _ hq)]
theorem uM:∀ (L:List Ln) (n i:Nat) (x:Ln),L[i]? = some x->(fb (dO n L) (.inl (1+ ((n+i:Nat):Int)))).isSome = !x.st
 | y::r,n,0,x,h=>by
   cases h
   unfold dO
   split
   ·rename_i hs
    rw [FO,hs]
    ·rfl
    rintro ⟨k,d⟩ hp e
    have e:k = .inl (1+ ((n+0:Nat):Int)):=e
    subst e
    have:=uL r (n+1) _ d hp
    omega
   ·rename_i hs
    show (fb (((.inl (1+ (n:Nat)):Key),Dv.bl true)::dO (n+1) r) (.inl (1+ (n:Nat)))).isSome = _
    rw [rB (p:=((.inl (1+ (n:Nat)):Key),Dv.bl true)) rfl]
    simp [hs]
 | y::r,n,i+1,x,h=>by
   have ih:=uM r (n+1) i x (by simpa using h)
   have z:n+1+i = n+ (i+1):=by omega
   rw [z] at ih
   unfold dO
   split
   ·exact ih
   ·rw [nK (p:=((.inl (1+ (n:Nat)):Key),Dv.bl true)) (λe=>by have:=Sum.inl.inj e; omega)]
    exact ih
theorem Iu (L:List Ln) (x:Ln) (hx:x.st = true):fS (dO 0 (L++[x])) (.inl (1+ (L.length:Nat))) (.bl true) = dO 0 (L++[{ x with st:=false }]):=by
 rw [pT,pT,if_pos hx,if_neg (by simp),List.append_nil,Nat.zero_add]
 unfold fS
 rw [if_neg]
 rw [List.any_eq_true]
 rintro ⟨⟨k,d⟩,hk,e⟩
 have e:k = .inl (1+ (L.length:Nat)):=of_decide_eq_true e
 subst e
 have:=uL L 0 _ d hk
 omega
theorem Ba:∀ (L:List Ln) (n:Nat),(dO n L).length<=L.length
 | [],_=>Nat.le_refl _
 | y::r,n=>by
   have:=Ba r (n+1)
   unfold dO
   simp only [List.length_cons]
   split
   ·omega
   ·simp only [List.length_cons]; omega
structure SK (h:List Nat) (L:List Ln) (st:iK):Prop where
 hn:st.lB = [h]
 b:st.bY.map (·.1) = L.map λx=>ao (cj (x.k:Nat))
 p:st.bJ.map (·.1) = L.map λx=>ct (cj (x.k:Nat)) 0
 c:st.aH = []\/∃ q,st.aH = [(pN,q)]/\q.fQ = [ao h]
theorem AF {α:Type} {l:List (Str×α)} {k:Str} (h:k∉l.map (·.1)):lk l k = none:=by
 unfold lk
 rw [Option.map_eq_none_iff,List.find?_eq_none]
 intro x hx z
 exact h (List.mem_map.mpr ⟨x,hx,of_decide_eq_true z⟩)
theorem SK.empty (h:List Nat):SK h [] ⟨[h],[],[],[]⟩:=⟨rfl,rfl,rfl,.inl rfl⟩
theorem Ar (ha:a < 1000) (hb:b < 1000) (h:cj (a:Nat) = cj (b:Nat)):a = b:=by
 have:=FK (n:=(a:Nat)) (m:=(b:Nat)) (by omega) (by omega) (by omega) (by omega) h
 omega
theorem Kh (h:ct n 0 = ct m 0):n = m:=by
 have:=nk.mp h
 unfold r6 at this
 exact List.append_cancel_right this
section
variable {ad:Slot->Addr} {c:Slot->Option Ob} {st:iK} {h:List Nat} {L:List Ln} {x:Ln}
theorem SK.HK (K:SK h L st) (hx:x.k < 1000) (hk:∀ y∈L,y.k < 1000/\y.k≠x.k):lk st.bY (ao (cj (x.k:Nat))) = none:=AF λz=>by
 rw [K.b] at z
 obtain ⟨y,hy,e⟩:=List.mem_map.mp z
 exact (hk y hy).2 (Ar (hk y hy).1 hx (nk.mp e))
theorem SK.Oc (K:SK h L st) (hx:x.k < 1000) (hk:∀ y∈L,y.k < 1000/\y.k≠x.k):lk st.bJ (ct (cj (x.k:Nat)) 0) = none:=AF λz=>by
 rw [K.p] at z
 obtain ⟨y,hy,e⟩:=List.mem_map.mp z
 exact (hk y hy).2 (Ar (hk y hy).1 hx (Kh e))
theorem Gp (n:List Nat):cm n 1 = [ct n 0]:=rfl
theorem DH (W:Own τ ad c) (m:Sem ad c st) (K:SK h L st) (hx:x.k < 1000) (hk:∀ y∈L,y.k < 1000/\y.k≠x.k) (hl:L.length<=300):
  Ac gz τ [.ob (ad .S),aN h x] (λr=>∃ τ' ad' c' st',r = .ok .non τ'/\Own τ' ad' c'/\Sem ad' c' st'/\SK h (L++[x]) st'/\Bh ad c ad' c'):=by
 have hn:(cj (x.k:Nat)).length<=12:=CA (iy (by omega))
 have lb:st.bY.length<=300:=by have:=congrArg List.length K.b; simp at this; omega
 have lp:st.bJ.length<=300:=by have:=congrArg List.length K.p; simp at this; omega
 have hb:=K.HK hx hk
 have hp:∀ k∈cm (cj (x.k:Nat)) 1,lk st.bJ k = none:=λk hk'=>by
  rw [Gp] at hk'
  rw [List.mem_singleton.mp hk']
  exact K.Oc hx hk
 rcases K.c with e | ⟨q,e,eo⟩
 ·have hp0:lk st.aH pN = none:=by rw [e]; rfl
  refine (Gv (cc:=1) (d:=x.day) (s:=h) (bb:=1+ (x.k:Nat)) (kind:="holder") (h0:=h) hn (by omega) W m hb hp (by omega) (by omega) hp0 (by rw [e]; show 0<=900; decide)).imp ?_
  rintro r ⟨τ',ad',c',st',rfl,W',m',B,e'⟩
  refine ⟨τ',ad',c',st',rfl,W',m',?_,B⟩
  subst e'
  refine ⟨K.hn,?_,?_,.inr ⟨⟨[ao h],[]⟩,?_,rfl⟩⟩
  ·show List.map (λz:Str×G5=>z.1) (st.bY++[_]) = _
   rw [List.map_append,List.map_append,K.b]; rfl
  ·show List.map (λz:Str×AH=>z.1) (st.bJ++((cm (cj (x.k:Nat)) 1).map _)) = _
   rw [List.map_append,List.map_append,K.p,Gp]; rfl
  ·show ((st.aH++[_]).map _) = _
   rw [e]
   show [if pN = pN then _ else _] = _
   rw [if_pos rfl]; rfl
 ·have hp0:lk st.aH pN = some q:=by rw [e,gc,if_pos rfl]
  refine (Gj (cc:=1) (d:=x.day) (s:=h) (bb:=1+ (x.k:Nat)) (kind:="holder") (h0:=h) hn (by omega) W m hb hp (by omega) (by omega) hp0 (by rw [eo]; show 1 < 1000; decide)).imp ?_
  rintro r ⟨τ',ad',c',rfl,W',m',B⟩
  refine ⟨τ',ad',c',_,rfl,W',m',⟨K.hn,?_,?_,.inr ⟨{ q with fQ:=lN q.fQ (ao h) },?_,?_⟩⟩,B⟩
  ·show List.map (λz:Str×G5=>z.1) (st.bY++[_]) = _
   rw [List.map_append,List.map_append,K.b]; rfl
  ·show List.map (λz:Str×AH=>z.1) (st.bJ++((cm (cj (x.k:Nat)) 1).map _)) = _
   rw [List.map_append,List.map_append,K.p,Gp]; rfl
  ·show (st.aH.map _) = _
   rw [e]
   show [if pN = pN then _ else _] = _
   rw [if_pos rfl]
  ·show lN q.fQ (ao h) = _
   rw [eo]; unfold lN; rw [if_pos (List.mem_singleton.mpr rfl)]
theorem D2 (W:Own τ ad c) (m:Sem ad c st) (K:SK h L st) (hx:x.k < 1000) (hk:∀ y∈L,y.k < 1000/\y.k≠x.k) (hl:L.length<=300):
  Ac fg τ [.ob (ad .S),aN h x] (λr=>∃ τ' ad' c' st',r = .ok .non τ'/\Own τ' ad' c'/\Sem ad' c' st'/\SK h (L++[x]) st'/\Bh ad c ad' c'):=by
 refine d7 (nX (Lk (k:="give") (t:=(2,gz)) (l:=[.ob (ad .S),aN h x]) (by show aw (.tup (.str "give"::BH h x)) (.int 0) = _; exact Ou _ _) (by kernel_rfl) rfl rfl ((DH W m K hx hk hl).imp ?_)))
 rintro r ⟨τ',ad',c',st',rfl,q⟩
 exact ⟨τ',ad',c',st',rfl,q⟩
end
end My
end
section
namespace My
open PySem L2
abbrev c5 (S:Addr) (h:List Nat) (W T:Addr):List (Str×Dv):=[("latest",.ob S),("hands",.lst (c8 [h])),("written",.ob W),("struck",.ob T)]
def b8 (L:List Ln):Int:=(L.getLast?.map (·.day)).getD 0
theorem fq (L:List Ln) (x:Ln):b8 (L++[x]) = x.day:=by unfold b8; rw [List.getLast?_append]; rfl
theorem gf (ho:mo ρ = .ok (.ob p)) (hp:ρ.t p = some (.ins c fs)) (hm:fs.lookup mm = none) (hl:ms ρ = .ok l) (hf:f ρ.t (.ob p::l) = d):cG c mm f mo ms ρ = d:=by
 unfold cG
 rw [ho,Rs.aq]
 have e:iw ρ.t (.ob p) = some (p,c,fs):=by unfold iw; dsimp only; rw [hp]
 rw [e]
 dsimp only
 rw [if_pos ⟨rfl,hm⟩,hl]
 exact hf
section
variable {B S W T:Addr} {h:List Nat} {L M:List Ln} {x:Ln}
theorem oz (hB:τ B = some (.ins "Book" (c5 S h W T))):di ["Book"] "latest" τ (.ob B) = .ok (.ob S):=by unfold di; dsimp only; rw [hB]; kernel_rfl
theorem Ey (hB:τ B = some (.ins "Book" (c5 S h W T))):di ["Store","Book"] "hands" τ (.ob B) = .ok (.lst (c8 [h])):=by unfold di; dsimp only; rw [hB]; kernel_rfl
theorem t6 (hB:τ B = some (.ins "Book" (c5 S h W T))):di ["Book"] "written" τ (.ob B) = .ok (.ob W):=by unfold di; dsimp only; rw [hB]; kernel_rfl
theorem pq (hB:τ B = some (.ins "Book" (c5 S h W T))):di ["Book"] "struck" τ (.ob B) = .ok (.ob T):=by unfold di; dsimp only; rw [hB]; kernel_rfl
theorem M8 (h:ρ[i]? = some (some (.v d))):mB i ρ = .ok d:=by unfold mB; rw [h]
theorem NT (h:ρ[i]? = some (some (.v d))):mV i ρ = .ok d:=by unfold mV; rw [h]
theorem nC (hB:ρ.t B = some (.ins "Book" (c5 S h W T))) (hW:ρ.t W = some (.ls (L.map (aN h)))) (h0:ρ[0]? = some (some (.v (.ob B)))):eQ (bH ["Book"] "written" (mB 0)) ρ = .ok (.lst (L.map (aN h))):=by
 unfold eQ bH
 rw [M8 h0,Rs.aq,t6 hB,Rs.aq,Lo hW]
theorem tm (n:Nat) (e:(Dv.str "give"::BH h x)[n]? = some d):aw (aN h x) (.int n) = .ok d:=EL n e
theorem ui (hB:τ B = some (.ins "Book" (c5 S h W T))) (hW:τ W = some (.ls (L.map (aN h)))):cg τ [.ob B] = .ok (.int (b8 L)):=by
 have e:=nC (ρ:=aE 1 τ [.ob B]) hB hW rfl
 refine gL rfl ?_
 unfold lu
 rcases List.eq_nil_or_concat L with rfl | ⟨M,x,rfl⟩
 ·unfold aT
  rw [uf]
  ·rfl
  ·show ((((eQ (bH ["Book"] "written" (mB 0)) (aE 1 τ [.ob B])).bind b6).bind λy=>d4 y (.int 0)).bind fY) = _
   rw [e]; rfl
 ·rw [List.concat_eq_append] at e ⊢
  rw [fq,eI (ρ':=aE 1 τ [.ob B])]
  ·show ((((eQ (bH ["Book"] "written" (mB 0)) (aE 1 τ [.ob B])).bind λy=>aw y (.int (-1))).bind λy=>aw y (.int 1))).bind _ = _
   rw [e,Rs.aq,List.map_append,show [x].map (aN h) = [aN h x] from rfl,Aq,Rs.aq,show ((1:Int)) = ((1:Nat):Int) from rfl,tm 1 rfl]
   rfl
  ·rw [hX]
   ·rfl
   ·show ((((eQ (bH ["Book"] "written" (mB 0)) (aE 1 τ [.ob B])).bind b6).bind λy=>d4 y (.int 0)).bind fY) = _
    rw [e,Rs.aq]
    show (d4 (.int (((M++[x]).map (aN h)).length:Nat)) (.int 0)).bind fY = _
    have z:decide (((((M++[x]).map (aN h)).length:Nat):Int) = 0) = false:=decide_eq_false (by rw [List.length_map,List.length_append]; simp only [List.length_cons,List.length_nil]; omega)
    show Rs.bind (Rs.ok (Dv.bl (decide (((((M++[x]).map (aN h)).length:Nat):Int) = 0)))) fY = _
    rw [z]; rfl
theorem As (hB:τ B = some (.ins "Book" (c5 S h W T))) (hW:τ W = some (.ls (L.map (aN h)))) (d:Int):bN τ [.ob B,.int d] = if d < b8 L then .ex "DayFalls" else .ok .non:=by
 have e:cG "Book" "last_day" cg (mV 0) ai (aE 2 τ [.ob B,.int d]) = .ok (.int (b8 L)):=gf (p:=B) (l:=[]) rfl hB (by kernel_rfl) rfl (ui hB hW)
 have et:bO ja (mB 1) (cG "Book" "last_day" cg (mV 0) ai) (aE 2 τ [.ob B,.int d]) = .ok (decide (d < b8 L)):=by
  show ((cG "Book" "last_day" cg (mV 0) ai (aE 2 τ [.ob B,.int d])).bind λy=>ja (.int d) y).bind fY = _
  rw [e]; rfl
 unfold bN fX aV
 rw [if_pos (show [Dv.ob B,Dv.int d].length = 2 from rfl)]
 by_cases hd:d < b8 L
 ·rw [if_pos hd,uf (by rw [et]; simp [hd])]; rfl
 ·rw [if_neg hd,hX (by rw [et]; simp [hd])]; rfl
theorem xX (hB:τ B = some (.ins "Book" (c5 S h W T))) (hW:τ W = some (.ls (L.map (aN h)))) (hT:τ T = some (.dct (dO 0 L))):dw τ [.ob B] = .ok (.lst (L.map (bu h))):=by
 have e:=nC (ρ:=aE 1 τ [.ob B]) hB hW rfl
 refine gL rfl ?_
 unfold qE
 let ps:List (Dv×Dv):=L.mapIdx λi x=>(.int (1+ (i:Nat)),aN h x)
 have e1:Dy (eQ (bH ["Book"] "written" (mB 0))) (aE 1 τ [.ob B]) = .ok (ps.map λp=>.tup [p.1,p.2]):=by
  unfold Dy
  rw [e,Rs.aq]
  show Rs.ok (vV (L.map (aN h))) = _
  unfold vV
  simp [ps,List.mapIdx_eq_zipIdx_map,List.zipIdx_map]
 have e2:=vU (e:=gp (aa (mV 1) (aa (gj true (mB 0) (bH ["Book"] "struck" (mB 2))) ai))) (cap:=[some (.v (.ob B))]) (τ:=τ) (λa b=>match a with | .int n=>.tup [b,.bl (xor true (fb (dO 0 L) (.inl n)).isSome)] | _=>.non) ps none none (λp hp=>by
  obtain ⟨i,hi,rfl⟩:=List.mem_mapIdx.mp hp
  show ((((Rs.ok (Dv.int (1+ (i:Nat)))).bind λy=>(di ["Book"] "struck" τ (.ob B)).bind λd=>m6 true τ d y).bind λy=>Rs.ok [y]).bind λl=>Rs.ok (aN h L[i]::l)).bind (λl=>Rs.ok (Dv.tup l)) = _
  rw [Rs.aq,pq hB,Rs.aq]
  unfold m6
  rw [dY hT]
  rfl)
 show ((cH (Dy (eQ (bH ["Book"] "written" (mB 0)))) 2 [0] _ dC _ (aE 1 τ [.ob B])).bind λl=>Rs.ok (Dv.lst l)).bind _ = _
 unfold cH
 rw [e1,Rs.aq]
 show ((cb (cE _ dC _ (ps.map λp=>.tup [p.1,p.2]) (⟨[none,none,some (.v (.ob B))],τ⟩:Ev))).bind λl=>Rs.ok (Dv.lst l)).bind _ = _
 rw [e2]
 show Rs.ok (Fl.rt (Dv.lst _)) = _
 congr 3
 refine List.ext_getElem? λi=>?_
 simp only [ps,List.getElem?_map,List.getElem?_mapIdx]
 cases z:L[i]? with
 | none=>rfl
 | some x=>
   have:=uM L 0 i x z
   rw [Nat.zero_add] at this
   show some (Dv.tup [aN h x,.bl (xor true (fb (dO 0 L) (.inl (1+ (i:Nat)))).isSome)]) = _
   rw [this]
   simp
end
end My
end
section
namespace My
open PySem L2
theorem Ff (hd:0<=d/\d<=100000):eC τ [.int d] = .ok .non:=by
 simp [eC,lQ,aV,mq,aE,bP,bS,aL,mV,ai,aa,aI,bU,cZ,gk,Rs.aq,Ev.bG,Cu,hd]
theorem Iq (hd:¬(0<=d/\d<=100000)):eC τ [.int d] = .ex "BadForm":=by
 simp [eC,lQ,aV,L0,aE,bP,bS,aL,mV,ai,aa,aI,bU,cZ,gk,Rs.aq,Ev.bG,Cu,hd,g9]
section
theorem LG:kz τ [aN h x] = .ok (.lst [.str (ao (cj (x.k:Nat)))]):=by
 refine gL rfl ?_
 unfold pH
 rw [eI (ρ':=⟨[some (.v (aN h x)),some (.v (.str "give"))],τ⟩)]
 ·unfold aT
  rw [uf]
  ·rfl
  ·rfl
 ·rfl
theorem Fy:jH τ [aN h x] = .ok (.lst [.str (ao (cj (x.k:Nat)))]):=by
 refine gL rfl ?_
 unfold qP aQ m1
 rw [gE (l:=[aN h x]) rfl LG]; rfl
theorem JD:lF τ [d,aN h x] = .ok (.lst [.str (ao (cj (x.k:Nat)))]):=by
 refine gL rfl ?_
 unfold qM
 rw [eI (ρ':=aE 2 τ [d,aN h x])]
 ·show (jH τ [aN h x]).bind _ = _
  rw [Fy]; rfl
 ·rw [hX]
  ·rfl
  ·rfl
theorem LX (l:List Dv):tu (.lst l) (some (l.length:Nat)) none = .ok (.lst []):=by
 unfold tu
 dsimp only
 have h1:HT.bD l.length 0 (some ((l.length:Nat):Int)) = l.length:=by unfold HT.bD; simp; omega
 have h2:HT.bD l.length l.length none = l.length:=rfl
 first
  | rw [if_neg (by rw [h1]; omega)]
  | skip
 unfold pB
 rw [h1,h2]
 simp
theorem J0 (hB:τ B = some (.ins "Book" (c5 S h W T))) (hW:τ W = some (.ls ((M++[x]).map (aN h)))) (hT:τ T = some (.dct (dO 0 (M++[x])))):fm τ [.ob B,.int ((M++[x]).length:Nat)] = .ok (.bl false):=by
 have e:=nC (ρ:=aE 4 τ [.ob B,.int ((M++[x]).length:Nat)]) hB hW rfl
 refine gL rfl ?_
 unfold jL
 have ei:aw (.lst ((M++[x]).map (aN h))) (.int (((M++[x]).length:Nat) - 1)) = .ok (aN h x):=by
  have:(((M++[x]).length:Nat):Int) - 1 = (M.length:Nat):=by simp
  rw [this]
  exact mG M.length (by simp)
 rw [eI (ρ':=⟨[some (.v (.ob B)),some (.v (.int ((M++[x]).length:Nat))),some (.v (.lst [.str (ao (cj (x.k:Nat)))])),none],τ⟩)]
 ·have er:cG "Book" "rows" dw (mV 0) ai (⟨[some (.v (.ob B)),some (.v (.int ((M++[x]).length:Nat))),some (.v (.lst [.str (ao (cj (x.k:Nat)))])),none],τ⟩:Ev) = .ok (.lst ((M++[x]).map (bu h))):=gf (p:=B) (l:=[]) rfl hB (by kernel_rfl) rfl (xX hB hW hT)
  have es:=LX ((M++[x]).map (bu h))
  rw [List.length_map] at es
  rw [eI (ρ':=⟨[some (.v (.ob B)),some (.v (.int ((M++[x]).length:Nat))),some (.v (.lst [.str (ao (cj (x.k:Nat)))])),some (.m [])],τ⟩)]
  ·rfl
  ·unfold jU cH cX Ec
   rw [er,Rs.aq]
   show (((tu (.lst ((M++[x]).map (bu h))) (some ((M++[x]).length:Nat)) none).bind mj).bind _).bind _ = _
   rw [es]
   rfl
 ·refine IH (d:=.lst [.str (ao (cj (x.k:Nat)))]) ?_
  refine (yW (l:=[.ob S,aN h x]) (bA ?_ (bA ?_ rfl))).trans JD
  ·exact oz hB
  ·show ((eQ (bH ["Book"] "written" (mB 0)) (aE 4 τ [.ob B,.int ((M++[x]).length:Nat)])).bind λy=>aw y (.int (((M++[x]).length:Nat) - 1))) = _
   rw [e,Rs.aq]; exact ei
theorem Ex (hB:τ B = some (.ins "Book" (c5 S h W T))) (hW:τ W = some (.ls ((M++[x]).map (aN h)))) (hT:τ T = some (.dct (dO 0 (M++[x])))) (hd:0<=x.day/\x.day<=100000) (hx:x.st = true):gi τ [.ob B,.int x.day,.int ((M++[x]).length:Nat)] = .ok .non:=by
 have e:=nC (ρ:=aE 3 τ [.ob B,.int x.day,.int ((M++[x]).length:Nat)]) hB hW rfl
 have hn:(M++[x]).length = M.length+1:=by simp
 have ei:aw (.lst ((M++[x]).map (aN h))) (.int (((M++[x]).length:Nat) - 1)) = .ok (aN h x):=by
  have:(((M++[x]).length:Nat):Int) - 1 = (M.length:Nat):=by simp
  rw [this]
  exact mG M.length (by simp)
 refine EG (ρ:=aE 3 τ [.ob B,.int x.day,.int ((M++[x]).length:Nat)]) rfl ?_
 unfold jc
 rw [eI (ρ':=aE 3 τ [.ob B,.int x.day,.int ((M++[x]).length:Nat)])]
 rotate_left
 ·show (eC τ [.int x.day]).bind _ = _
  rw [Ff hd]; rfl
 rw [eI (ρ':=aE 3 τ [.ob B,.int x.day,.int ((M++[x]).length:Nat)])]
 rotate_left
 ·have:=As (d:=x.day) hB hW
  rw [fq,if_neg (Int.lt_irrefl _)] at this
  show (cG "Book" "check_order_of_days" bN (mV 0) (aa (mV 1) ai) (aE 3 τ [.ob B,.int x.day,.int ((M++[x]).length:Nat)])).bind _ = _
  rw [gf (p:=B) (l:=[.int x.day]) rfl hB (by kernel_rfl) rfl this]; rfl
 rw [eI (ρ':=aE 3 τ [.ob B,.int x.day,.int ((M++[x]).length:Nat)])]
 rotate_left
 ·rw [hX]
  ·rfl
  ·have z1:decide ((((M++[x]).length:Nat):Int) < 1) = false:=decide_eq_false (by omega)
   have z2:decide (((((M++[x]).map (aN h)).length:Nat):Int) < (((M++[x]).length:Nat):Int)) = false:=decide_eq_false (by rw [List.length_map]; omega)
   unfold d5
   rw [show bO ja (mB 2) (mC (.int 1)) (aE 3 τ [.ob B,.int x.day,.int ((M++[x]).length:Nat)]) = .ok (decide ((((M++[x]).length:Nat):Int) < 1)) from rfl,z1,Rs.aq,if_neg (by decide)]
   show ((((eQ (bH ["Book"] "written" (mB 0)) (aE 3 τ [.ob B,.int x.day,.int ((M++[x]).length:Nat)])).bind b6).bind λy=>Ai (.int ((M++[x]).length:Nat)) y).bind fY) = _
   rw [e,Rs.aq]
   show Rs.ok (decide (((((M++[x]).map (aN h)).length:Nat):Int) < (((M++[x]).length:Nat):Int))) = _
   rw [z2]
 rw [eI (ρ':=aE 3 τ [.ob B,.int x.day,.int ((M++[x]).length:Nat)])]
 rotate_left
 ·rw [hX]
  ·rfl
  ·show (((di ["Book"] "struck" τ (.ob B)).bind λd=>m6 false τ d (.int ((M++[x]).length:Nat))).bind fY) = _
   rw [pq hB,Rs.aq]
   unfold m6
   rw [dY hT]
   show Rs.ok (xor false (fb (dO 0 (M++[x])) (.inl ((M++[x]).length:Nat))).isSome) = _
   have v:=uM (M++[x]) 0 M.length x (by simp)
   rw [Nat.zero_add] at v
   have:(((M++[x]).length:Nat):Int) = 1+ (M.length:Nat):=by rw [hn]; omega
   rw [this,v,hx]
   rfl
 rw [eI (ρ':=aE 3 τ [.ob B,.int x.day,.int ((M++[x]).length:Nat)])]
 rotate_left
 ·rw [hX]
  ·rfl
  ·show ((((eQ (bH ["Book"] "written" (mB 0)) (aE 3 τ [.ob B,.int x.day,.int ((M++[x]).length:Nat)])).bind λy=>aw y (.int (((M++[x]).length:Nat) - 1))).bind λy=>aw y (.int 1)).bind λy=>mJ y (.int x.day)).bind fY = _
   rw [e,Rs.aq,ei,Rs.aq,show ((1:Int)) = ((1:Nat):Int) from rfl,tm 1 rfl,Rs.aq]
   show Rs.ok (!decide (x.day = x.day)) = _
   rw [decide_eq_true rfl]; rfl
 rw [hX]
 ·rfl
 ·show (cG "Book" "named_later" fm (mV 0) (aa (mV 2) ai) (aE 3 τ [.ob B,.int x.day,.int ((M++[x]).length:Nat)])).bind _ = _
  rw [gf (p:=B) (l:=[.int ((M++[x]).length:Nat)]) rfl hB (by kernel_rfl) rfl (J0 hB hW hT)]; rfl
end
end My
end
section
namespace My
open PySem L2
theorem qB (hx:τ x = some (.ins "Store" [])) (hg:∀ n∈l,cA n = true) (hn:l.Nodup) (hl:l.length<=40):Ac fP τ [.ob x,.lst (c8 l)] (λr=>∃ B P R C τ',r = .ok .non τ'/\Ox τ' x (c8 l) B P R C [] [] [] []/\∀ a o,a≠x->τ a = some o->τ' a = some o/\a≠B/\a≠P/\a≠R/\a≠C):=by
 have e0:iY τ [.lst (c8 l)] = .ok .non:=by
  have h1:=FX (τ:=τ) (d:=.lst (c8 l)) (.inl rfl) hg hn (by omega)
  have h2:¬(40:Int) < ((l.length:Nat):Int):=by omega
  simp [iY,ot,aV,mq,aE,bP,bS,aL,mV,mB,mC,m1,m2,ai,aa,aI,bO,bU,d5,cZ,cJ,gk,Rs.aq,mE,Ev.bG,h1,h2,Ai,b6]
 refine d7 ?_
 refine aG (gF (d:=.non) e0 ?_)
 refine aG (fM rfl rfl hx (by decide +kernel) (ee 0 rfl) ?_)
 refine aG (jv (λ_=>rfl) aY (by decide +kernel) (ee 1 (by kernel_rfl)) λb hb=>?_)
 obtain ⟨b1,hb⟩:=bK hb
 refine aG (jv (λ_=>rfl) aY (by decide +kernel) (ee 2 (by kernel_rfl)) λp hp=>?_)
 obtain ⟨p1,hp⟩:=bK hp
 obtain ⟨p2,hp⟩:=bK hp
 obtain ⟨_,hp⟩:=bK hp
 refine aG (jv (λ_=>rfl) aY (by decide +kernel) (ee 3 (by kernel_rfl)) λr hr=>?_)
 obtain ⟨r1,hr⟩:=bK hr
 obtain ⟨r2,hr⟩:=bK hr
 obtain ⟨_,hr⟩:=bK hr
 obtain ⟨r3,hr⟩:=bK hr
 obtain ⟨_,hr⟩:=bK hr
 refine jv (λ_=>rfl) aY (by decide +kernel) (ee 4 (by kernel_rfl)) λc hc=>?_
 obtain ⟨c1,hc⟩:=bK hc
 obtain ⟨c2,hc⟩:=bK hc
 obtain ⟨_,hc⟩:=bK hc
 obtain ⟨c3,hc⟩:=bK hc
 obtain ⟨_,hc⟩:=bK hc
 obtain ⟨c4,hc⟩:=bK hc
 obtain ⟨_,hc⟩:=bK hc
 replace hb:τ b = none:=hb
 replace hp:τ p = none:=hp
 replace hr:τ r = none:=hr
 replace hc:τ c = none:=hc
 refine ⟨b,p,r,c,_,rfl,⟨aY,?_,?_,?_,?_,Ne.symm p2,Ne.symm r3,Ne.symm c4,Ne.symm r2,Ne.symm c3,Ne.symm c2⟩,λa o na ha=>?_⟩
 ·simp [aF,b1,Ne.symm p2,Ne.symm r3,Ne.symm c4]
 ·simp [aF,p1,Ne.symm r2,Ne.symm c3]
 ·simp [aF,r1,Ne.symm c2]
 ·simp [aF,c1]
 ·have ne:∀ {q:Addr},τ q = none->a≠q:=λ{q} hq z=>by rw [z,hq] at ha; cases ha
  refine ⟨?_,ne hb,ne hp,ne hr,ne hc⟩
  simp [aF,na,ne hb,ne hp,ne hr,ne hc]
  exact ha
def vG (ad:Slot->Addr) (S B P R C:Addr):Slot->Addr
 | .x n=>ad (.x n) | .B=>B | .P=>P | .R=>R | .C=>C | _=>S
def cN (c:Slot->Option Ob) (d:Dv) (S B P R C:Addr):Slot->Option Ob
 | .x n=>c (.x n)
 | .S=>some (.ins "Store" (fe d B P R C))
 | .B | .P | .R | .C=>some (.dct [])
 | _=>none
theorem LF (W:Own τ ad c) (fr:∀ n o,c (.x n) = some o->τ' (ad (.x n)) = some o/\ad (.x n)≠S/\ad (.x n)≠B/\ad (.x n)≠P/\ad (.x n)≠R/\ad (.x n)≠C) (h:Ox τ' S (c8 l) B P R C [] [] [] []):
  Own τ' (vG ad S B P R C) (cN c (.lst (c8 l)) S B P R C)/\Sem (vG ad S B P R C) (cN c (.lst (c8 l)) S B P R C) ⟨l,[],[],[]⟩:=by
 have ne:∀ {p:Addr},τ' p = some (.dct [])->S≠p:=λ{p} e z=>by have:=h.s; rw [z,e] at this; cases this
 refine ⟨⟨λs o e=>?_,λs s' o o' e e' z=>?_⟩,⟨rfl,rfl,rfl,rfl,rfl,nofun,nofun,nofun,λ_ _=>rfl,λ_ _=>⟨rfl,rfl⟩,λ_ _=>⟨rfl,rfl,rfl⟩⟩⟩
 ·cases s with
  | x n=>exact (fr n o e).1
  | S=>cases e; exact h.s
  | B=>cases e; exact h.b
  | P=>cases e; exact h.p
  | R=>cases e; exact h.r
  | C=>cases e; exact h.c
  | _=>cases e
 ·by_cases hx:∃ n,s = .x n
  ·obtain ⟨n,rfl⟩:=hx
   obtain ⟨_,n1,n2,n3,n4,n5⟩:=fr n o e
   cases s' with
   | x k=>exact W.inj _ _ _ _ e e' z
   | S=>exact absurd z n1
   | B=>exact absurd z n2
   | P=>exact absurd z n3
   | R=>exact absurd z n4
   | C=>exact absurd z n5
   | _=>cases e'
  ·by_cases hx':∃ n,s' = .x n
   ·obtain ⟨n,rfl⟩:=hx'
    obtain ⟨_,n1,n2,n3,n4,n5⟩:=fr n o' e'
    cases s with
    | x k=>exact absurd ⟨k,rfl⟩ hx
    | S=>exact absurd z.symm n1
    | B=>exact absurd z.symm n2
    | P=>exact absurd z.symm n3
    | R=>exact absurd z.symm n4
    | C=>exact absurd z.symm n5
    | _=>cases e
   ·have bp:=h.bp
    have br:=h.br
    have bc:=h.bc
    have pr:=h.pr
    have pc:=h.pc
    have rc:=h.rc
    have sb:=ne h.b
    have sp:=ne h.p
    have sr:=ne h.r
    have sc:=ne h.c
    cases s <;> first | (exact absurd ⟨_,rfl⟩ hx) | (cases e <;> cases s' <;> first | (exact absurd ⟨_,rfl⟩ hx') | (cases e' <;> first | rfl | exact absurd z (by assumption) | exact absurd z.symm (by assumption)))
theorem AA (hx:Ax mx ρ (λr=>∃ d τ1 p c fs,r = .ok d τ1/\mo ⟨ρ.c,τ1⟩ = .ok (.ob p)/\τ1 p = some (.ins c fs)/\cs.contains c = true/\fs.length < 1000/\Φ (.nx ⟨ρ.c,aF τ1 p (.ins c (fV f d fs))⟩))):Al (de cs f mo mx) ρ Φ:=λr z=>by
 obtain ⟨r1,h1,h2⟩:=z
 obtain ⟨d,τ1,p,c,fs,rfl,ho,hp,hc,hl,k⟩:=hx r1 h1
 rw [pV (ρ:=⟨ρ.c,τ1⟩) ho hp hc hl h2]
 exact k
structure Bk (h:List Nat) (L:List Ln) (τ:cw) (ad:Slot->Addr) (c:Slot->Option Ob) (st:iK):Prop where
 W:Own τ ad c
 m:Sem ad c st
 k:SK h (L.filter (·.st)) st
 x0:c (.x 0) = some (.ins "Book" (c5 (ad .S) h (ad (.x 1)) (ad (.x 2))))
 x1:c (.x 1) = some (.ls (L.map (aN h)))
 x2:c (.x 2) = some (.dct (dO 0 L))
theorem nx (h:n≠m):Slot.x n≠Slot.x m:=λz=>h (Slot.x.inj z)
theorem Fd (hB:τ B0 = some (.ins "Book" [])) (hg:cA h = true):Ac iR τ [.ob B0,.lst (c8 [h])] (λr=>∃ τ' ad c st,r = .ok .non τ'/\ad (.x 0) = B0/\Bk h [] τ' ad c st):=by
 refine d7 ?_
 refine aG (AA (kg (l:=[.lst (c8 [h])]) rfl rfl λS hS=>(qB aY (by simpa using hg) (by simp) (by simp)).imp ?_))
 rintro r ⟨B,P,R,C,τ1,rfl,st,fr⟩
 have nS:B0≠S:=λz=>by replace hS:τ S = none:=hS; rw [z,hS] at hB; cases hB
 obtain ⟨g1,g2,g3,g4,g5⟩:=fr B0 (.ins "Book" []) nS (by show aF τ S _ B0 = _; rw [dc nS]; exact hB)
 have W00:Own τ (λ_=>B0) (λs=>match s with | .x 0=>some (.ins "Book" []) | _=>none):=by
  refine ⟨λs o e=>?_,λs s' o o' e e' _=>?_⟩
  ·split at e
   ·cases e; exact hB
   ·cases e
  ·split at e
   ·split at e'
    ·rfl
    ·cases e'
   ·cases e
 obtain ⟨W0,m0⟩:=LF W00 (τ':=τ1) (S:=S) (B:=B) (P:=P) (R:=R) (C:=C) (l:=[h]) (λn o e=>by
  split at e
  ·cases e; exact ⟨g1,nS,g2,g3,g4,g5⟩
  ·cases e) st
 have a0:vG (λ_=>B0) S B P R C (.x 0) = B0:=rfl
 have aS:vG (λ_=>B0) S B P R C .S = S:=rfl
 have c00:cN (λs=>match s with | .x 0=>some (.ins "Book" []) | _=>none) (.lst (c8 [h])) S B P R C (.x 0) = some (.ins "Book" []):=rfl
 generalize vG (λ_=>B0) S B P R C = ad at W0 m0 a0 aS
 generalize cN (λs=>match s with | .x 0=>some (.ins "Book" []) | _=>none) (.lst (c8 [h])) S B P R C = c at W0 m0 c00
 refine ⟨.ob S,τ1,B0,"Book",[],rfl,rfl,g1,by decide +kernel,ee 0 rfl,?_⟩
 have W1:=W0.upd (o:=.ins "Book" [("latest",.ob S)]) c00
 rw [a0] at W1
 refine aG (fM (d:=.lst (c8 [h])) (fs:=[("latest",.ob S)]) rfl rfl aY (by decide +kernel) (ee 1 rfl) ?_)
 have W2:=W1.upd (s0:=.x 0) (o:=.ins "Book" [("latest",.ob S),("hands",.lst (c8 [h]))]) bw
 rw [a0] at W2
 refine aG (A2 (fs:=[("latest",.ob S),("hands",.lst (c8 [h]))]) (λ_=>rfl) aY (by decide +kernel) (ee 2 rfl) λq hq=>?_)
 have W3:=W2.new (s0:=.x 1) (o:=.ls []) hq
 have W4:=W3.upd (s0:=.x 0) (o:=.ins "Book" [("latest",.ob S),("hands",.lst (c8 [h])),("written",.ob q)]) ((ar (nx (by decide))).trans bw)
 rw [ar (nx (by decide)),a0] at W4
 refine jv (fs:=[("latest",.ob S),("hands",.lst (c8 [h])),("written",.ob q)]) (λ_=>rfl) aY (by decide +kernel) (ee 3 rfl) λt ht=>?_
 have W5:=W4.new (s0:=.x 2) (o:=.dct []) ht
 have W6:=W5.upd (s0:=.x 0) (o:=.ins "Book" (c5 S h q t)) ((ar (nx (by decide))).trans bw)
 rw [ar (nx (by decide)),ar (nx (by decide)),a0] at W6
 refine ⟨_,_,_,_,rfl,?_,⟨W6,(((((m0.xc).xc).Kl q).xc).Kl t).xc,SK.empty h,?_,?_,?_⟩⟩
 ·rw [ar (nx (by decide)),ar (nx (by decide)),a0]
 ·rw [bw,ar (s:=.x 2) (t:=.S) nofun,ar (s:=.x 1) (t:=.S) nofun,aS,ar (s:=.x 2) (t:=.x 1) (nx (by decide)),bw,bw]
 ·rw [ar (s:=.x 0) (t:=.x 1) (nx (by decide)),ar (s:=.x 2) (t:=.x 1) (nx (by decide)),ar (s:=.x 0) (t:=.x 1) (nx (by decide)),bw]; rfl
 ·rw [ar (s:=.x 0) (t:=.x 2) (nx (by decide)),bw]; rfl
end My
end
section
namespace My
open PySem L2
section
theorem eB (B:Bk h L τ ad c st):τ (ad (.x 0)) = some (.ins "Book" (c5 (ad .S) h (ad (.x 1)) (ad (.x 2)))):=B.W.at_ _ _ B.x0
theorem mK (B:Bk h L τ ad c st):τ (ad (.x 1)) = some (.ls (L.map (aN h))):=B.W.at_ _ _ B.x1
theorem yH (B:Bk h L τ ad c st):τ (ad (.x 2)) = some (.dct (dO 0 L)):=B.W.at_ _ _ B.x2
theorem yL (hg:cA h = true) (hd:0<=x.day/\x.day<=100000) (hx:x.k < 1000):fA τ [aN h x] = .ok .non:=
 JP (ss:=["day","name","name","name","tons","kind","name","copies"]) (by kernel_rfl) (.cons (.day hd) (.cons (.name (iy (by omega))) (.cons (.name (by decide)) (.cons (.name hg) (.cons (.bb (by omega)) (.cons (.kind (.inr (.inr rfl))) (.cons (.name hg) (.cons (.l9 (by omega)) .nil))))))))
abbrev yh (B:Addr) (d:Dv):List (Option Cell):=[some (.v (.ob B)),some (.v d)]
theorem AL (B:Bk h L τ ad c st):cG "Book" "check_order_of_days" bN (mV 0) (aa (m2 aw (mB 1) (mC (.int 1))) ai) (⟨yh (ad (.x 0)) (aN h x),τ⟩:Ev) = if x.day < b8 L then .ex "DayFalls" else .ok .non:=
 gf (p:=ad (.x 0)) (l:=[.int x.day]) rfl (eB B) (by kernel_rfl) (bA (by show aw (aN h x) (.int 1) = _; exact tm 1 rfl) rfl) (As (eB B) (mK B) x.day)
theorem zp (B:Bk h L τ ad c st) (hg:cA h = true) (hd:0<=x.day/\x.day<=100000) (hx:x.k < 1000) (ho:x.day < b8 L):Ac eO τ [.ob (ad (.x 0)),aN h x] (λr=>r = .ex "DayFalls" τ):=by
 refine d7 (aG (gF (d:=.non) (yL hg hd hx) (aG (vM (c:="DayFalls") ?_ rfl))))
 exact (AL B).trans (if_pos ho)
theorem GD (B:Bk h L τ ad c st) (hg:cA h = true) (hd:0<=x.day/\x.day<=100000) (hx:x.k < 1000) (hk:∀ y∈L,y.k < 1000/\y.k≠x.k) (hl:L.length < 90) (ho:¬x.day < b8 L) (hs:x.st = true):Ac eO τ [.ob (ad (.x 0)),aN h x] (λr=>∃ τ' ad' c' st',r = .ok (.int ((L++[x]).length:Nat)) τ'/\Bk h (L++[x]) τ' ad' c' st'/\ad' (.x 0) = ad (.x 0)):=by
 have hk':∀ y∈L.filter (·.st),y.k < 1000/\y.k≠x.k:=λy hy=>hk y (List.mem_filter.mp hy).1
 have lf:(L.filter (·.st)).length<=L.length:=List.length_filter_le ..
 have lb:st.bY.length < 100:=by have:=congrArg List.length B.k.b; simp at this; omega
 have lc:st.aH.length < 60:=by
  rcases B.k.c with e | ⟨q,e,_⟩
  ·rw [e]; decide
  ·rw [e]; show 1 < 60; decide
 refine d7 (aG (gF (d:=.non) (yL hg hd hx) (aG (gF (d:=.non) ((AL B).trans (if_neg ho)) ?_))))
 have jg:=judge_ok (S:=ad .S) (k:="give") (row:=BH h x) (τ:=τ) (f:=fI) (yL hg hd hx) (by kernel_rfl) (Im (d:=x.day) (ag:=pN) (bb:=1+ (x.k:Nat)) (kind:="holder") (cc:=1) B.W B.m (by rw [B.k.hn]; simp) (by rw [B.k.hn]; simp) (B.k.HK hx hk') lb lc)
 refine aG (nX (gS (p:=ad .S) (l:=[aN h x]) (oz (eB B)) (fc B.W B.m) (by kernel_rfl) rfl rfl (jg.imp ?_)))
 rintro r rfl
 refine aG (rg ?_ ?_)
 ·rw [hX]
  ·rfl
  ·show ((((eQ (bH ["Book"] "written" (mB 0)) (⟨yh (ad (.x 0)) (aN h x),τ⟩:Ev)).bind b6).bind λy=>sj y (.int 300)).bind fY) = _
   rw [nC (ρ:=⟨yh (ad (.x 0)) (aN h x),τ⟩) (eB B) (mK B) rfl,Rs.aq]
   show Rs.ok (decide ((300:Int)<=(((L.map (aN h)).length:Nat):Int))) = _
   rw [decide_eq_false (by rw [List.length_map]; omega)]
 refine aG (nX (gS (p:=ad .S) (l:=[aN h x]) (oz (eB B)) (fc B.W B.m) (by kernel_rfl) rfl rfl ((D2 B.W B.m B.k hx hk' (by omega)).imp ?_)))
 rintro r ⟨τ',ad',c',st',rfl,W',m',K',bh⟩
 have x0':c' (.x 0) = some (.ins "Book" (c5 (ad' .S) h (ad' (.x 1)) (ad' (.x 2)))):=by rw [bh.x,bh.aS,bh.ax,bh.ax]; exact B.x0
 have x1':c' (.x 1) = some (.ls (L.map (aN h))):=(bh.x 1).trans B.x1
 have t0:=W'.at_ _ _ x0'
 have t1:=W'.at_ _ _ x1'
 rw [bh.ax] at t0
 refine aG (Mh (p:=ad' (.x 1)) (l:=L.map (aN h)) (d:=aN h x) (t6 t0) rfl t1 (by rw [List.length_map]; have:=cM; omega) ?_)
 have W2:=W'.upd (s0:=.x 1) (o:=.ls ((L++[x]).map (aN h))) x1'
 have e1:L.map (aN h)++[aN h x] = (L++[x]).map (aN h):=by rw [List.map_append]; rfl
 have x0'':up c' (.x 1) (some (.ls ((L++[x]).map (aN h)))) (.x 0) = some (.ins "Book" (c5 (ad' .S) h (ad' (.x 1)) (ad' (.x 2)))):=(ar (nx (by decide))).trans x0'
 have t0':=W2.at_ _ _ x0''
 have t1':=W2.at_ (.x 1) _ bw
 rw [bh.ax 0] at t0'
 refine E8 (d:=.int ((L++[x]).length:Nat)) ?_ ?_
 ·show ((eQ (bH ["Book"] "written" (mB 0)) (⟨yh (ad (.x 0)) (aN h x),aF τ' (ad' (.x 1)) (.ls (L.map (aN h)++[aN h x]))⟩:Ev)).bind b6) = _
  rw [e1,nC (ρ:=⟨yh (ad (.x 0)) (aN h x),aF τ' (ad' (.x 1)) (.ls ((L++[x]).map (aN h)))⟩) t0' t1' rfl,Rs.aq]
  show Rs.ok (Dv.int (((L++[x]).map (aN h)).length:Nat)) = _
  rw [List.length_map]
 ·refine ⟨_,ad',_,st',rfl,⟨?_,m'.xc,?_,x0'',bw,?_⟩,bh.ax 0⟩
  ·show Own (aF τ' (ad' (.x 1)) (.ls (L.map (aN h)++[aN h x]))) _ _
   rw [e1]; exact W2
  ·rw [List.filter_append,show [x].filter (·.st) = [x] from by simp [hs]]; exact K'
  ·rw [ar (nx (by decide)),bh.x,B.x2,pT,if_pos hs,List.append_nil]
abbrev PK:MW:=kq (dH (bU (mB 4)) (bO sH (m2 aw (mB 3) (mC (.int 1))) (mB 1))) (nB (eS "Store" "perform" 2 fg (mV 2) (aa (mV 3) ai))) (ay aL)
abbrev Py:Dv->Ev->Rs Ev:=gT 2 (dJ (gN 3) (dJ (gN 4) j9))
abbrev Hc (B:Addr) (D:Int) (S:Addr) (x3 x4:Option Cell):List (Option Cell):=[some (.v (.ob B)),some (.v (.int D)),some (.v (.ob S)),x3,x4]
theorem uH:∀ (L M:List Ln) (τ:cw) (ad:Slot->Addr) (c:Slot->Option Ob) (st:iK) (x3 x4:Option Cell),Own τ ad c->Sem ad c st->SK h M st->ad .S = S->(∀ y∈L,y.day<=D)->(∀ y∈M++L,y.k < 1000)->((M++L).map (·.k)).Nodup->M.length+L.length<=300->
  Al (gm Py PK (L.map (bu h))) ⟨Hc B D S x3 x4,τ⟩ (λr=>∃ x3' x4' τ' ad' c' st',r = .nx ⟨Hc B D S x3' x4',τ'⟩/\Own τ' ad' c'/\Sem ad' c' st'/\SK h (M++L.filter (·.st)) st'/\Bh ad c ad' c')
 | [],M,τ,ad,c,st,x3,x4,W,m,K,hS,_,_,_,_=>yY ⟨x3,x4,τ,ad,c,st,rfl,W,m,by rw [List.filter_nil,List.append_nil]; exact K,.refl⟩
 | x::L,M,τ,ad,c,st,x3,x4,W,m,K,hS,hD,hk,hn,hl=>by
   subst hS
   have hk2:∀ y∈M,y.k < 1000/\y.k≠x.k:=λy hy=>⟨hk y (List.mem_append_left _ hy),λz=>by
    rw [List.map_append,List.nodup_append] at hn
    exact hn.2.2 y.k (List.mem_map.mpr ⟨y,hy,rfl⟩) x.k (by simp) z⟩
   have hxk:x.k < 1000:=hk x (by simp)
   simp only [List.length_cons] at hl
   refine uu (ρ1:=⟨Hc B D (ad .S) (some (.v (aN h x))) (some (.v (.bl x.st))),τ⟩) rfl rfl ?_
   cases hs:x.st with
   | true=>
     refine sS ?_ (nX (gS (p:=ad .S) (l:=[aN h x]) rfl (fc W m) (by kernel_rfl) rfl rfl ((D2 W m K hxk hk2 (by omega)).imp ?_)))
     ·rw [n9 rfl]
      show ((aw (aN h x) (.int 1)).bind λy=>sH y (.int D)).bind fY = _
      rw [show ((1:Int)) = ((1:Nat):Int) from rfl,tm 1 rfl,Rs.aq]
      show Rs.ok (decide (x.day<=D)) = _
      rw [decide_eq_true (hD x (List.mem_cons_self ..))]
     ·rintro r ⟨τ',ad',c',st',rfl,W',m',K',bh⟩
      have e:M++x::L = (M++[x])++L:=by simp
      rw [e] at hk hn
      refine Al.imp (uH L (M++[x]) τ' ad' c' st' _ _ W' m' K' bh.aS (λy hy=>hD y (List.mem_cons_of_mem _ hy)) hk hn (by simp; omega)) ?_
      rintro r ⟨x3',x4',τ2,ad2,c2,st2,rfl,W2,m2,K2,b2⟩
      refine ⟨x3',x4',τ2,ad2,c2,st2,rfl,W2,m2,?_,bh.trans b2⟩
      rw [List.filter_cons,if_pos hs]
      simpa using K2
   | false=>
     refine qc (uW rfl) (ke ?_)
     have hk3:∀ y∈M++L,y.k < 1000:=λy hy=>hk y (by
      rcases List.mem_append.mp hy with z | z
      ·exact List.mem_append_left _ z
      ·exact List.mem_append_right _ (List.mem_cons_of_mem _ z))
     have hn3:((M++L).map (·.k)).Nodup:=hn.sublist (List.Sublist.map _ (List.Sublist.append_left (List.sublist_cons_self ..) _))
     refine Al.imp (uH L M τ ad c st _ _ W m K rfl (λy hy=>hD y (List.mem_cons_of_mem _ hy)) hk3 hn3 (by omega)) ?_
     rintro r ⟨x3',x4',τ2,ad2,c2,st2,rfl,W2,m2,K2,b2⟩
     refine ⟨x3',x4',τ2,ad2,c2,st2,rfl,W2,m2,?_,b2⟩
     rw [List.filter_cons,if_neg (by rw [hs]; decide)]
     exact K2
structure Bx (h:List Nat) (L:List Ln) (τ:cw) (ad:Slot->Addr) (c:Slot->Option Ob) (S0:Addr):Prop where
 W:Own τ ad c
 x0:c (.x 0) = some (.ins "Book" (c5 S0 h (ad (.x 1)) (ad (.x 2))))
 x1:c (.x 1) = some (.ls (L.map (aN h)))
 x2:c (.x 2) = some (.dct (dO 0 L))
theorem Bk.bx (B:Bk h L τ ad c st):Bx h L τ ad c (ad .S):=⟨B.W,B.x0,B.x1,B.x2⟩
theorem Ho (B:Bx h L τ ad c S0) (hg:cA h = true) (hD:0<=D/\D<=100000) (hd:∀ y∈L,y.day<=D) (hk:∀ y∈L,y.k < 1000) (hn:(L.map (·.k)).Nodup) (hl:L.length<=300):Ac iC τ [.ob (ad (.x 0)),.int D] (λr=>∃ τ' ad' c' st',r = .ok (.ob (ad' .S)) τ'/\Own τ' ad' c'/\Sem ad' c' st'/\SK h (L.filter (·.st)) st'/\(∀ n,c' (.x n) = c (.x n))/\∀ n,ad' (.x n) = ad (.x n)):=by
 refine d7 (aG (gF (d:=.non) (Ff hD) ?_))
 refine aG (Bi (kg (l:=[.lst (c8 [h])]) (bA (Ey (B.W.at_ _ _ B.x0)) rfl) rfl λS hS=>(qB aY (by simpa using hg) (by simp) (by simp)).imp ?_))
 rintro r ⟨b,P,R,C,τ1,rfl,sto,fr⟩
 replace hS:τ S = none:=hS
 obtain ⟨W0,m0⟩:=LF B.W (τ':=τ1) (S:=S) (B:=b) (P:=P) (R:=R) (C:=C) (l:=[h]) (λn o e=>by
  have a1:=B.W.at_ _ _ e
  have nS:ad (.x n)≠S:=λz=>by rw [z,hS] at a1; cases a1
  obtain ⟨g1,g2⟩:=fr _ o nS (by show aF τ S _ _ = _; rw [dc nS]; exact a1)
  exact ⟨g1,nS,g2⟩) sto
 have aS:vG ad S b P R C .S = S:=rfl
 have ax:∀ n,vG ad S b P R C (.x n) = ad (.x n):=λ_=>rfl
 have cx:∀ n,cN c (.lst (c8 [h])) S b P R C (.x n) = c (.x n):=λ_=>rfl
 generalize vG ad S b P R C = ad1 at W0 m0 aS ax
 generalize cN c (.lst (c8 [h])) S b P R C = c1 at W0 m0 cx
 have t0:=W0.at_ (.x 0) _ ((cx 0).trans B.x0)
 have t1:=W0.at_ (.x 1) _ ((cx 1).trans B.x1)
 have t2:=W0.at_ (.x 2) _ ((cx 2).trans B.x2)
 rw [ax] at t0 t1 t2
 refine aG (xF (l:=L.map (bu h)) ?_ (Al.imp (uH (S:=S) L [] τ1 ad1 c1 _ none none W0 m0 (SK.empty h) aS hd (by simpa using hk) (by simpa using hn) (by simpa using hl)) ?_))
 ·show (cG "Book" "rows" dw (mV 0) ai (⟨Hc (ad (.x 0)) D S none none,τ1⟩:Ev)).bind mj = _
  rw [gf (p:=ad (.x 0)) (l:=[]) rfl t0 (by kernel_rfl) rfl (xX t0 t1 t2)]; rfl
 ·rintro r ⟨x3',x4',τ2,ad2,c2,st2,rfl,W2,m2,K2,b2⟩
  refine wt (d:=.ob S) rfl ⟨τ2,ad2,c2,st2,?_,W2,m2,by simpa using K2,λn=>(b2.x n).trans (cx n),λn=>(b2.ax n).trans (ax n)⟩
  rw [b2.aS,aS]; rfl
theorem KD (hD:¬(0<=D/\D<=100000)):Ac iC τ [.ob B0,.int D] (λr=>r = .ex "BadForm" τ):=d7 (aG (vM (c:="BadForm") (Iq hD) rfl))
theorem E9 (B:Bk h (M++[x]) τ ad c st) (hg:cA h = true) (hd:∀ y∈M++[x],0<=y.day/\y.day<=100000) (hk:∀ y∈M++[x],y.k < 1000) (hn:((M++[x]).map (·.k)).Nodup) (hl:(M++[x]).length<=300) (hs:x.st = true):Ac ik τ [.ob (ad (.x 0)),.int x.day,.int ((M++[x]).length:Nat)] (λr=>∃ τ' ad' c' st',r = .ok (aN h x) τ'/\Bk h (M++[{ x with st:=false }]) τ' ad' c' st'/\ad' (.x 0) = ad (.x 0)):=by
 have hx:=hd x (by simp)
 refine d7 (aG (gF (d:=.non) (gf (p:=ad (.x 0)) (l:=[.int x.day,.int ((M++[x]).length:Nat)]) rfl (eB B) (by kernel_rfl) rfl (Ex (eB B) (mK B) (yH B) hx hs)) ?_))
 refine aG (oO (Bb (d:=.bl true) rfl ⟨.bl true,τ,ad (.x 2),.int ((M++[x]).length:Nat),.inl ((M++[x]).length:Nat),dO 0 (M++[x]),rfl,pq (eB B),rfl,rfl,yH B,by have:=Ba (M++[x]) 0; have:=cM; omega,?_⟩))
 have en:(((M++[x]).length:Nat):Int) = 1+ (M.length:Nat):=by simp; omega
 have e2:fS (dO 0 (M++[x])) (.inl ((M++[x]).length:Nat)) (.bl true) = dO 0 (M++[{ x with st:=false }]):=by rw [en]; exact Iu M x hs
 have er:(M++[x]).map (aN h) = (M++[{ x with st:=false }]).map (aN h):=by rw [List.map_append,List.map_append]; rfl
 rw [e2]
 have W1:=B.W.upd (s0:=.x 2) (o:=.dct (dO 0 (M++[{ x with st:=false }]))) B.x2
 have X:Bx h (M++[{ x with st:=false }]) (aF τ (ad (.x 2)) (.dct (dO 0 (M++[{ x with st:=false }])))) ad (up c (.x 2) (some (.dct (dO 0 (M++[{ x with st:=false }]))))) (ad .S):=⟨W1,(ar (nx (by decide))).trans B.x0,by rw [←er]; exact (ar (nx (by decide))).trans B.x1,bw⟩
 have ek:List.map (λy:Ln=>y.k) (M++[{ x with st:=false }]) = (M++[x]).map (·.k):=by rw [List.map_append,List.map_append]; rfl
 have el:(M++[{ x with st:=false }]).length = (M++[x]).length:=by simp
 have old:∀ y∈M++[{ x with st:=false }],(0<=y.day/\y.day<=100000)/\y.k < 1000:=λy hy=>by
  rcases List.mem_append.mp hy with z | z
  ·exact ⟨hd y (List.mem_append_left _ z),hk y (List.mem_append_left _ z)⟩
  ·rw [List.mem_singleton.mp z]; exact ⟨hx,hk x (by simp)⟩
 refine aG (AA (gS (p:=ad (.x 0)) (l:=[.int 100000]) rfl (X.W.at_ _ _ X.x0) (by kernel_rfl) rfl rfl ((Ho X hg (by decide) (λy hy=>(old y hy).1.2) (λy hy=>(old y hy).2) (by rw [ek]; exact hn) (by rw [el]; exact hl)).imp ?_)))
 rintro r ⟨τ',ad',c',st',rfl,W',m',K',cx,ax⟩
 have c0:c' (.x 0) = some (.ins "Book" (c5 (ad .S) h (ad (.x 1)) (ad (.x 2)))):=(cx 0).trans X.x0
 have t0:=W'.at_ _ _ c0
 rw [ax] at t0
 refine ⟨.ob (ad' .S),τ',ad (.x 0),"Book",_,rfl,rfl,t0,by decide +kernel,ee 4 rfl,?_⟩
 have W2:=W'.upd (s0:=.x 0) (o:=.ins "Book" (c5 (ad' .S) h (ad' (.x 1)) (ad' (.x 2)))) c0
 have x1:up c' (.x 0) (some (.ins "Book" (c5 (ad' .S) h (ad' (.x 1)) (ad' (.x 2))))) (.x 1) = some (.ls ((M++[{ x with st:=false }]).map (aN h))):=(ar (nx (by decide))).trans ((cx 1).trans X.x1)
 have x2:up c' (.x 0) (some (.ins "Book" (c5 (ad' .S) h (ad' (.x 1)) (ad' (.x 2))))) (.x 2) = some (.dct (dO 0 (M++[{ x with st:=false }]))):=(ar (nx (by decide))).trans ((cx 2).trans X.x2)
 have e3:aF τ' (ad (.x 0)) (.ins "Book" (fV "latest" (.ob (ad' .S)) (c5 (ad .S) h (ad (.x 1)) (ad (.x 2))))) = aF τ' (ad' (.x 0)) (.ins "Book" (c5 (ad' .S) h (ad' (.x 1)) (ad' (.x 2)))):=by
  rw [ax 0,ax 1,ax 2]
  congr 1
 have s0:aF τ' (ad' (.x 0)) (.ins "Book" (c5 (ad' .S) h (ad' (.x 1)) (ad' (.x 2)))) (ad (.x 0)) = some (.ins "Book" (c5 (ad' .S) h (ad' (.x 1)) (ad' (.x 2)))):=by rw [←ax 0]; exact W2.at_ (.x 0) _ bw
 have s1:=W2.at_ _ _ x1
 rw [←er] at s1
 rw [e3]
 refine E8 (d:=aN h x) ?_ ⟨_,ad',_,st',rfl,⟨W2,m'.xc,K',bw,x1,x2⟩,ax 0⟩
 show ((eQ (bH ["Book"] "written" (mB 0)) (⟨[some (.v (.ob (ad (.x 0)))),some (.v (.int x.day)),some (.v (.int ((M++[x]).length:Nat)))],aF τ' (ad' (.x 0)) (.ins "Book" (c5 (ad' .S) h (ad' (.x 1)) (ad' (.x 2))))⟩:Ev)).bind λy=>aw y (.int (((M++[x]).length:Nat) - 1))) = _
 rw [nC (L:=M++[x]) (ρ:=⟨[some (.v (.ob (ad (.x 0)))),some (.v (.int x.day)),some (.v (.int ((M++[x]).length:Nat)))],aF τ' (ad' (.x 0)) (.ins "Book" (c5 (ad' .S) h (ad' (.x 1)) (ad' (.x 2))))⟩) s0 s1 rfl,Rs.aq]
 have:(((M++[x]).length:Nat):Int) - 1 = (M.length:Nat):=by simp
 rw [this]
 exact mG M.length (by simp)
end
end My
end
section
namespace My
open PySem L2
theorem C5 (h:∀ d∈l,Sm τ n d d) (hl:l.length<=1000):Sm τ (n+1) (.tup l) (.tup l):=.sq (t:=true) (l:=l) (l':=l) rfl rfl (λi x y hx hy=>by
 rw [hx] at hy; cases hy; exact h x (List.mem_of_getElem? hx)) rfl hl
theorem Li (h:∀ d∈l,Sm τ n d d) (hl:l.length<=1000):Sm τ (n+1) (.lst l) (.lst l):=.sq (t:=false) (l:=l) (l':=l) rfl rfl (λi x y hx hy=>by
 rw [hx] at hy; cases hy; exact h x (List.mem_of_getElem? hx)) rfl hl
theorem Eu (n:Nat) (h:List Nat) (x:Ln):Sm τ (n+1) (aN h x) (aN h x):=C5 (λd hd=>by
 simp only [List.mem_cons,List.not_mem_nil,or_false] at hd
 rcases hd with rfl | rfl | rfl | rfl | rfl | rfl | rfl | rfl | rfl <;> first | exact .str _ _ | exact .int _ _) (by show 9<=1000; decide)
theorem IA (n:Nat) (h:List Nat) (x:Ln):Sm τ (n+2) (bu h x) (bu h x):=C5 (λd hd=>by
 simp only [List.mem_cons,List.not_mem_nil,or_false] at hd
 rcases hd with rfl | rfl
 ·exact Eu n h x
 ·exact .bl _ _) (by show 2<=1000; decide)
theorem Fs (n:Nat) (h:List Nat) (L:List Ln) (hl:L.length<=1000):Sm τ (n+3) (.lst (L.map (bu h))) (.lst (L.map (bu h))):=Li (λd hd=>by
 obtain ⟨x,_,rfl⟩:=List.mem_map.mp hd
 exact IA n h x) (by rw [List.length_map]; exact hl)
abbrev Ig (h:List Nat) (x:Ln):PyData:=.tuple [.str "give",.int x.day,.str (ao (cj (x.k:Nat))),.str pN,.str (ao h),.int (1+ (x.k:Nat)),.str "holder",.str (ao h),.int ((1:Nat):Int)]
abbrev jO (h:List Nat) (x:Ln):PyData:=.tuple [Ig h x,.bool x.st]
theorem xQ (h:List Nat):∀ L:List Ln,iG (L.map (bu h)) = some (L.map (jO h))
 | []=>rfl
 | x::L=>by
   show (match kl (bu h x),iG (L.map (bu h)) with | some a,some b=>some (a::b) | _,_=>none) = _
   rw [xQ h L]; rfl
theorem FG (hg:cA h = true) (x:Ln):PyData.canLay0 (jO h x) = true:=by
 have e1:PyData.strOk ("give":Str) = true:=by decide +kernel
 have e2:PyData.strOk ("holder":Str) = true:=by decide +kernel
 simp only [jO,Ig,PyData.canLay0,PyData.canLayAll0,uz hg,uz (iy (n:=(x.k:Nat)) (by omega)),uz (show cA [112] = true by decide),e1,e2]; rfl
theorem vH (hg:cA h = true):∀ L:List Ln,PyData.canLayAll0 (L.map (jO h)) = true
 | []=>rfl
 | x::L=>by
   rw [List.map_cons]
   unfold PyData.canLayAll0
   rw [FG hg x,vH hg L]; rfl
theorem yP (hg:cA h = true) (L:List Ln):nQ (.lst (L.map (bu h))) (.lst []) = .ok (.bl (!L.isEmpty)):=by
 have e1:kl (.lst (L.map (bu h))) = some (.list (L.map (jO h))):=by
  show (iG (L.map (bu h))).map PyData.list = _
  rw [xQ]; rfl
 unfold nQ
 rw [e1,show kl (.lst []) = some (.list []) from rfl]
 dsimp only
 have ok:C7 (.list (L.map (jO h))) (.list []) = true:=by
  unfold C7
  rw [Bool.and_eq_true,Bool.and_eq_true]
  exact ⟨⟨(show PyData.canLay0 (.list (L.map (jO h))) = PyData.canLayAll0 (L.map (jO h)) from rfl).trans (vH hg L),rfl⟩,decide_eq_true (Nat.le_trans (Nat.min_le_right _ _) (show (PyData.list []).depth<=60 from by decide +kernel))⟩
 rw [if_pos ok]
 cases L <;> rfl
theorem yZ (i:Int) (k:Nat) (hk:0 < k) (hl:l.length = k):∃ d∈l,aw (.lst l) (.int (i % (k:Nat))) = .ok d:=by
 obtain ⟨n,hn⟩:=Int.eq_ofNat_of_zero_le (Int.emod_nonneg i (show ((k:Nat):Int)≠0 by omega))
 have lt:n < l.length:=by have:=Int.emod_lt_of_pos i (show (0:Int) < ((k:Nat):Int) by omega); omega
 rw [hn]
 exact ⟨l[n],List.getElem_mem lt,mG n (List.getElem?_eq_getElem lt)⟩
theorem LA (h:lY i j):GA (.int i) (.int j) = .ok (.int (i * j)):=by
 show (if lY i j then Rs.ok (Dv.int (i * j)) else .bad) = _
 rw [if_pos h]
theorem Mp:∃ v:Int,fj τ [.lst [.int a,.int b,.int c,.int d,.int e,.int f],.int 2] = .ok (.int v):=by
 have i2:aw (.lst [.int a,.int b,.int c,.int d,.int e,.int f]) (.int 2) = .ok (.int c):=rfl
 have i3:aw (.lst [.int a,.int b,.int c,.int d,.int e,.int f]) (.int 3) = .ok (.int d):=rfl
 obtain ⟨v,hv,ev⟩:=yZ (l:=[.int 0,.int 1,.int 9,.int 10,.int 99999,.int 100000]) (c / 2) 6 (by decide) rfl
 have ev:aw (.lst [.int 0,.int 1,.int 9,.int 10,.int 99999,.int 100000]) (.int (c / 2 % 6)) = .ok v:=ev
 obtain ⟨w,rfl⟩:∃ w:Int,v = .int w:=by
  simp only [List.mem_cons,List.not_mem_nil,or_false] at hv
  rcases hv with rfl | rfl | rfl | rfl | rfl | rfl <;> exact ⟨_,rfl⟩
 by_cases h:c % 2 = 1
 ·exact ⟨w,by simp [fj,iJ,aV,dQ,aE,aT,oJ,bP,aQ,aL,mB,mC,m1,m2,ai,aa,bW,bO,cJ,Rs.aq,dL,Ev.bG,i2,i3,d4,ou,h,ev]⟩
 ·exact ⟨(c / 2+1260 * d) % 100001,by simp [fj,iJ,aV,dQ,aE,aT,dk,bP,aQ,aL,mB,mC,m1,m2,ai,aa,bW,bO,cJ,Rs.aq,dL,Ev.bG,i2,i3,d4,ou,h,ev,bX,LA (i:=1260) (j:=d) (.inl (by decide))]⟩
theorem L7 (last:Int):∃ v:Int,iP τ [.lst [.int a,.int b,.int c,.int d,.int e,.int f],.int last] = .ok (.int v)/\0<=v/\v<=100000:=by
 obtain ⟨p,ep⟩:=Mp (τ:=τ) (a:=a) (b:=b) (c:=c) (d:=d) (e:=e) (f:=f)
 have i0:aw (.lst [.int a,.int b,.int c,.int d,.int e,.int f]) (.int 0) = .ok (.int a):=rfl
 have i1:aw (.lst [.int a,.int b,.int c,.int d,.int e,.int f]) (.int 1) = .ok (.int b):=rfl
 obtain ⟨v,hv,ev⟩:=yZ (l:=[.int last,.int (last+b % 7 - 3),.int (last+b % 7 - 3),.int (last+b % 7 - 3),.int last,.int 0,.int 100000,.int p]) a 8 (by decide) rfl
 have ev:aw (.lst [.int last,.int (last+b % 7 - 3),.int (last+b % 7 - 3),.int (last+b % 7 - 3),.int last,.int 0,.int 100000,.int p]) (.int (a % 8)) = .ok v:=ev
 obtain ⟨w,rfl⟩:∃ w:Int,v = .int w:=by
  simp only [List.mem_cons,List.not_mem_nil,or_false] at hv
  rcases hv with rfl | rfl | rfl | rfl | rfl | rfl | rfl | rfl <;> exact ⟨_,rfl⟩
 refine ⟨if (if w > 0 then w else 0) < 100000 then (if w > 0 then w else 0) else 100000,?_,?_,?_⟩
 ·simp [iP,sN,aV,dQ,aE,aT,dk,bC,aQ,mV,mB,mC,m1,m2,ai,aa,bW,aI,Rs.aq,dL,mE,Ev.bG,Ev.set_mk,i0,i1,ep,bX,nr,ev,CM]
 ·split <;> split <;> omega
 ·split <;> split <;> omega
theorem xa {sub:Str->Str->Option Bool} {c y:Str} {a:MW} {ρ:Ev} {Φ:Fw->Prop} {hs:List (Str×Option Nat×MW)} (h:sub c y = some true) (k:Al a ρ (λr=>Φ (wA r))):∀ r,nu sub c ρ ((y,none,a)::hs) r->Φ r:=λr z=>by
 unfold nu at z
 rw [h] at z
 obtain ⟨r1,h1,e⟩:=z
 rw [e]; exact k r1 h1
section
theorem EF (B:Bk h L τ ad c st) (hg:cA h = true) (hd:0<=x.day/\x.day<=100000) (hx:x.k < 1000) (ho:x.day < b8 L):Ac gu τ [.ob (ad (.x 0)),aN h x] (λr=>r = .ok (.bl true) τ):=by
 refine d7 (aG (eJ (d:=.bl false) rfl (aG (Df (gS (p:=ad (.x 0)) (l:=[aN h x]) rfl (eB B) (by kernel_rfl) rfl rfl ((zp B hg hd hx ho).imp ?_))))))
 rintro r rfl
 exact xa (by kernel_rfl) (eJ (d:=.bl true) rfl (wt (d:=.bl true) rfl rfl))
theorem zF {D:Int} (B:Bk h L τ ad c st) (hD:¬(0<=D/\D<=100000)):Ac hJ τ [.ob (ad (.x 0)),.int D] (λr=>r = .ok (.bl true) τ):=by
 refine d7 (aG (eJ (d:=.bl false) rfl (aG (Df (gS (p:=ad (.x 0)) (l:=[.int D]) rfl (eB B) (by kernel_rfl) rfl rfl ((KD hD).imp ?_))))))
 rintro r rfl
 exact xa (by kernel_rfl) (eJ (d:=.bl true) rfl (wt (d:=.bl true) rfl rfl))
end
theorem sF (h:Ax mx ρ (λr=>∃ d τ' l y,r = .ok d τ'/\ms ⟨ρ.c,τ'⟩ = .ok l/\f τ' (d::l) = .ok y/\X (.ok y τ'))):Ax (nO f mx ms) ρ X:=λr z=>by
 obtain ⟨r1,h1,h2⟩:=z
 obtain ⟨d,τ',l,y,rfl,e1,e2,k⟩:=h r1 h1
 dsimp only at h2
 rw [e1,Rs.aq,e2] at h2
 rw [h2]; exact k
theorem se (h:Ax mx ρ (λr=>∃ τ',r = .ok (.bl true) τ'/\Al u ⟨ρ.c,τ'⟩ Φ)):Al (iI mx t u) ρ Φ:=qe (h.imp λr ⟨τ',e,k⟩=>by rw [e]; exact k)
end My
end
section
namespace My
open PySem L2
abbrev eL (ns:List Int) (h:List Nat) (B:Addr) (L:List Ln) (last:Int) (x5 x6 x7 x8 x9:Option Cell):List (Option Cell):=[some (.v (.seq (ns.map .int))),some (.v (.lst (c8 [h]))),some (.v (.ob B)),some (.m (L.map (bu h))),some (.v (.int last)),x5,x6,x7,x8,x9,none]
structure Ok (k:Nat) (L:List Ln):Prop where
 kk:∀ y∈L,y.k < k
 nd:(L.map (·.k)).Nodup
 dd:∀ y∈L,0<=y.day/\y.day<=100000
 so:∀ y∈L,y.day<=b8 L
 len:L.length<=k
abbrev wR:MW:=(ay (bP (d5 (cZ (bU (aI (ba 6) (aa (cG "Book" "last_day" cg (mV 2) ai) (aa (mV 4) ai))))) (cZ (bU (mU (ba 6) (aa (cG "Book" "rows" dw (mV 2) ai) (aa (mB 3) ai)))))) (aQ (mC (.bl false))) aL))
section
theorem E2 (ha:a ρ = .ok d) (hb:b ρ = .ok d') (s:Sm ρ.t f d d'):cZ (bU (aI (ba (f+1)) (aa a (aa b ai)))) ρ = .ok false:=by
 unfold cZ bU
 rw [gE (l:=[d,d']) (bA ha (bA hb rfl)) (mX s)]; rfl
theorem ud (B:Bk h L τ ad c st) (hl:L.length<=900) (z:Φ (.nx ⟨eL ns h (ad (.x 0)) L (b8 L) x5 x6 x7 x8 x9,τ⟩)):Al wR ⟨eL ns h (ad (.x 0)) L (b8 L) x5 x6 x7 x8 x9,τ⟩ Φ:=by
 refine rg ?_ z
 rw [hX]
 ·rfl
 unfold d5
 rw [E2 (f:=5) (d:=.int (b8 L)) (d':=.int (b8 L)) (gf (p:=ad (.x 0)) (l:=[]) rfl (eB B) (by kernel_rfl) rfl (ui (eB B) (mK B))) rfl (.int _ _),Rs.aq,if_neg (by decide)]
 have e:mU (ba 6) (aa (cG "Book" "rows" dw (mV 2) ai) (aa (mB 3) ai)) (⟨eL ns h (ad (.x 0)) L (b8 L) x5 x6 x7 x8 x9,τ⟩:Ev) = .ok (.bl true):=by
  unfold mU
  rw [bA (l:=[.lst (L.map (bu h))]) (gf (p:=ad (.x 0)) (l:=[]) rfl (eB B) (by kernel_rfl) rfl (xX (eB B) (mK B) (yH B))) (bA rfl rfl),Rs.aq]
  unfold Ow
  rw [mX (n:=5) (Fs 2 h L (by omega))]; rfl
 unfold cZ bU
 rw [e]; rfl
theorem LI:((M++[x]).map (bu h)).set M.length (.tup [aN h x,.bl false]) = (M++[{ x with st:=false }]).map (bu h):=by
 rw [List.map_append,List.map_append]
 show ((M.map (bu h))++[bu h x]).set M.length _ = _
 rw [List.set_append,if_neg (by rw [List.length_map]; exact Nat.lt_irrefl _),List.length_map,Nat.sub_self]
 rfl
theorem Ok.up (o:Ok k L):Ok (k+1) L:=⟨λy hy=>Nat.lt_succ_of_lt (o.kk y hy),o.nd,o.dd,o.so,Nat.le_succ_of_le o.len⟩
theorem Ok.MY (o:Ok k (M++[x])):Ok (k+1) (M++[{ x with st:=false }]):=by
 have cv:∀ y∈M++[{ x with st:=false }],∃ y'∈M++[x],y'.k = y.k/\y'.day = y.day:=λy hy=>by
  rcases List.mem_append.mp hy with z | z
  ·exact ⟨y,List.mem_append_left _ z,rfl,rfl⟩
  ·rw [List.mem_singleton.mp z]; exact ⟨x,by simp,rfl,rfl⟩
 refine ⟨λy hy=>?_,?_,λy hy=>?_,λy hy=>?_,?_⟩
 ·obtain ⟨y',h1,h2,_⟩:=cv y hy
  have:=o.kk y' h1; omega
 ·have:=o.nd
  rw [List.map_append] at this ⊢
  exact this
 ·obtain ⟨y',h1,_,h3⟩:=cv y hy
  rw [←h3]; exact o.dd y' h1
 ·obtain ⟨y',h1,_,h3⟩:=cv y hy
  have:=o.so y' h1
  rw [fq] at this ⊢
  rw [←h3]; exact this
 ·have:=o.len
  simp at this ⊢
  omega
theorem Ok.add (o:Ok k L) (hk:x.k = k) (hd:0<=x.day/\x.day<=100000) (ho:¬x.day < b8 L):Ok (k+1) (L++[x]):=by
 refine ⟨λy hy=>?_,?_,λy hy=>?_,λy hy=>?_,?_⟩
 ·rcases List.mem_append.mp hy with z | z
  ·have:=o.kk y z; omega
  ·rw [List.mem_singleton.mp z]; omega
 ·rw [List.map_append,List.nodup_append]
  refine ⟨o.nd,by simp,λa ha b hb=>?_⟩
  obtain ⟨y,hy,rfl⟩:=List.mem_map.mp ha
  simp at hb
  rw [hb]
  have:=o.kk y hy; omega
 ·rcases List.mem_append.mp hy with z | z
  ·exact o.dd y z
  ·rw [List.mem_singleton.mp z]; exact hd
 ·rw [fq]
  rcases List.mem_append.mp hy with z | z
  ·have:=o.so y z; omega
  ·rw [List.mem_singleton.mp z]; omega
 ·have:=o.len
  simp
  omega
end
end My
end
section
namespace My
open PySem L2
abbrev Ml:MW:=(aX (ay (bC 6 (aI fL (aa (mV 0) (aa (m2 bX (mC (.int 4)) (mB 5)) (aa (mC (.int 6)) ai))))))
   (aX (ay (bC 7 (aI iP (aa (mV 6) (aa (mV 4) ai)))))
   (aX (ay (bC 8 (gp (aa (mC (.str "give")) (aa (mV 7) (aa (aI cV (aa (mV 5) ai)) (aa (mC (.str "p")) (aa (m2 aw (mB 1) (mC (.int 0))) (aa (m2 bX (mC (.int 1)) (mB 5)) (aa (mC (.str "holder")) (aa (m2 aw (mB 1) (mC (.int 0))) (aa (mC (.int 1)) ai))))))))))))
   (aX (kq (dH (bO d4 (m1 (cU 4) (m2 aw (mB 6) (mC (.int 4)))) (mC (.int 3))) (dH (bO nQ (mB 3) (bW ai)) (bU (m2 aw (m2 aw (mB 3) (mC (.int (-1)))) (mC (.int 1)))))) (aX (iI (nO (ba 6) (eS "Book" "strike" 3 ik (mV 2) (aa (mV 4) (aa (m1 b6 (mB 3)) ai))) (aa (m2 aw (m2 aw (mB 3) (mC (.int (-1)))) (mC (.int 0))) ai)) (ay (aQ (mC (.bl false)))) (ay aL))
   (ay (wJ 3 (mC (.int (-1))) (gp (aa (m2 aw (m2 aw (mB 3) (mC (.int (-1)))) (mC (.int 0))) (aa (mC (.bl false)) ai)))))) (kq (bO ja (mB 7) (mB 4)) (iI (iq 2 gu (aa (mV 2) (aa (mV 8) ai))) (ay (aQ (mC (.bl false)))) (ay aL)) (aX (ay (ju 3 (gp (aa (mV 8) (aa (mC (.bl true)) ai)))))
   (aX (ay (bC 4 (mV 7)))
   (iI (nO (ba 6) (eS "Book" "write" 2 eO (mV 2) (aa (mV 8) ai)) (aa (m1 b6 (mB 3)) ai)) (ay (aQ (mC (.bl false)))) (ay aL))))))
   (ay (bP (d5 (cZ (bU (aI (ba 6) (aa (cG "Book" "last_day" cg (mV 2) ai) (aa (mV 4) ai))))) (cZ (bU (mU (ba 6) (aa (cG "Book" "rows" dw (mV 2) ai) (aa (mB 3) ai)))))) (aQ (mC (.bl false))) aL))))))
section
def IL (ns:List Int) (h:List Nat) (B0:Addr) (k:Nat) (ρ:Ev):Prop:=∃ (τ:cw) (ad:Slot->Addr) (c:Slot->Option Ob) (st:iK) (L:List Ln) (x5 x6 x7 x8:Option Cell),ρ = ⟨eL ns h B0 L (b8 L) x5 x6 x7 x8 none,τ⟩/\Bk h L τ ad c st/\ad (.x 0) = B0/\Ok k L
theorem NA:gp (aa (mC (.str "give")) (aa (mV 7) (aa (aI cV (aa (mV 5) ai)) (aa (mC (.str "p")) (aa (m2 aw (mB 1) (mC (.int 0))) (aa (m2 bX (mC (.int 1)) (mB 5)) (aa (mC (.str "holder")) (aa (m2 aw (mB 1) (mC (.int 0))) (aa (mC (.int 1)) ai))))))))) (⟨eL ns h B0 L last (some (.v (.int (k:Nat)))) x6 (some (.v (.int v))) x8 none,τ⟩:Ev) = .ok (aN h ⟨v,k,true⟩):=by
 have i0:aw (.lst (c8 [h])) (.int 0) = .ok (.str (ao h)):=mG 0 rfl
 exact Ay (bA rfl (bA rfl (bA (gE (l:=[.int (k:Nat)]) rfl (vq _)) (bA (congrArg (λx=>Rs.ok (Dv.str x)) (by decide +kernel)) (bA i0 (bA rfl (bA rfl (bA i0 (bA rfl rfl)))))))))
theorem iter (B:Bk h L τ ad c st) (o:Ok k L) (hg:cA h = true) (hk:k < 41):Al Ml ⟨eL ns h (ad (.x 0)) L (b8 L) (some (.v (.int (k:Nat)))) x6 x7 x8 none,τ⟩ (λr=>∃ ρ',r = .nx ρ'/\IL ns h (ad (.x 0)) (k+1) ρ'):=by
 obtain ⟨fs,ef,lf,bf⟩:=E4 (τ:=τ) 6 (by decide) ns (4+k)
 obtain ⟨a,b,cc,d,e,f,rfl⟩:∃ a b c d e f,fs = [a,b,c,d,e,f]:=by
  match fs,lf with
  | [a,b,c,d,e,f],_=>exact ⟨a,b,c,d,e,f,rfl⟩
 refine aG (eJ (d:=.lst [.int a,.int b,.int cc,.int d,.int e,.int f]) ?_ ?_)
 ·exact gE (l:=[.seq (ns.map .int),.int ((4+k:Nat):Int),.int ((6:Nat):Int)]) (bA rfl (bA (by show Rs.ok (Dv.int (4+ (k:Nat))) = _; rw [show (4+ ((k:Nat):Int)) = ((4+k:Nat):Int) by omega]) (bA rfl rfl))) ef
 obtain ⟨v,ev,v0,v1⟩:=L7 (τ:=τ) (a:=a) (b:=b) (c:=cc) (d:=d) (e:=e) (f:=f) (b8 L)
 refine aG (eJ (d:=.int v) (gE (l:=[.lst [.int a,.int b,.int cc,.int d,.int e,.int f],.int (b8 L)]) (bA rfl (bA rfl rfl)) ev) ?_)
 refine aG (eJ (d:=aN h ⟨v,k,true⟩) NA ?_)
 have hl:L.length < 90:=by have:=o.len; omega
 have hkk:∀ y∈L,y.k < 1000:=λy hy=>by have:=o.kk y hy; omega
 have other:Al (kq (bO ja (mB 7) (mB 4)) (iI (iq 2 gu (aa (mV 2) (aa (mV 8) ai))) (ay (aQ (mC (.bl false)))) (ay aL)) (aX (ay (ju 3 (gp (aa (mV 8) (aa (mC (.bl true)) ai)))))
   (aX (ay (bC 4 (mV 7)))
   (iI (nO (ba 6) (eS "Book" "write" 2 eO (mV 2) (aa (mV 8) ai)) (aa (m1 b6 (mB 3)) ai)) (ay (aQ (mC (.bl false)))) (ay aL))))) ⟨eL ns h (ad (.x 0)) L (b8 L) (some (.v (.int (k:Nat)))) (some (.v (.lst [.int a,.int b,.int cc,.int d,.int e,.int f]))) (some (.v (.int v))) (some (.v (aN h ⟨v,k,true⟩))) none,τ⟩ (Ov wR λr=>∃ ρ',r = .nx ρ'/\IL ns h (ad (.x 0)) (k+1) ρ'):=by
  by_cases ho:v < b8 L
  ·refine sS (by show Rs.ok (decide (v < b8 L)) = _; rw [decide_eq_true ho]) ?_
   refine se (Ak (l:=[.ob (ad (.x 0)),aN h ⟨v,k,true⟩]) rfl rfl ((EF B hg ⟨v0,v1⟩ (by show k < 1000; omega) ho).imp ?_))
   rintro r rfl
   refine ⟨τ,rfl,ke (ud B (by omega) ⟨_,rfl,τ,ad,c,st,L,_,_,_,_,rfl,B,rfl,o.up⟩)⟩
  ·refine qc (by show Rs.ok (decide (v < b8 L)) = _; rw [decide_eq_false ho]) ?_
   refine aG (IK (l:=L.map (bu h)) (d:=bu h ⟨v,k,true⟩) rfl rfl (by rw [List.length_map]; have:=cM; omega) ?_)
   refine aG (eJ (d:=.int v) rfl ?_)
   have e1:L.map (bu h)++[bu h ⟨v,k,true⟩] = (L++[(⟨v,k,true⟩:Ln)]).map (bu h):=by rw [List.map_append]; rfl
   refine se (sF (gS (p:=ad (.x 0)) (l:=[aN h ⟨v,k,true⟩]) rfl (eB B) (by kernel_rfl) rfl rfl ((GD (x:=⟨v,k,true⟩) B hg ⟨v0,v1⟩ (by show k < 1000; omega) (λy hy=>⟨hkk y hy,Nat.ne_of_lt (o.kk y hy)⟩) hl ho rfl).imp ?_)))
   rintro r ⟨τ',ad',c',st',rfl,B',a0⟩
   refine ⟨_,τ',[.int ((L++[(⟨v,k,true⟩:Ln)]).length:Nat)],.bl true,rfl,?_,mX (n:=5) (.int _ _),τ',rfl,ke ?_⟩
   ·refine bA ?_ rfl
    show b6 (.lst (L.map (bu h)++[bu h ⟨v,k,true⟩])) = _
    rw [e1]
    show Rs.ok (Dv.int (((L++[(⟨v,k,true⟩:Ln)]).map (bu h)).length:Nat)) = _
    rw [List.length_map]
   ·have lz:b8 (L++[(⟨v,k,true⟩:Ln)]) = v:=fq L ⟨v,k,true⟩
    have tk:=ud (Φ:=λr=>∃ ρ',r = .nx ρ'/\IL ns h (ad (.x 0)) (k+1) ρ') (ns:=ns) (x5:=some (.v (.int (k:Nat)))) (x6:=some (.v (.lst [.int a,.int b,.int cc,.int d,.int e,.int f]))) (x7:=some (.v (.int v))) (x8:=some (.v (aN h ⟨v,k,true⟩))) (x9:=none) B' (by simp; omega) ⟨_,rfl,τ',ad',c',st',_,_,_,_,_,by rw [a0],B',a0,o.add rfl ⟨v0,v1⟩ ho⟩
    rw [a0,lz] at tk
    show Al wR (⟨[_,_,_,some (.m (L.map (bu h)++[bu h ⟨v,k,true⟩])),_,_,_,_,_,_,_],τ'⟩:Ev) _
    rw [e1]
    exact tk
 by_cases he:e % 4 = 3
 ·rcases List.eq_nil_or_concat L with rfl | ⟨M,y,rfl⟩
  ·refine aG (qc ?_ other)
   rw [n9 (by show Rs.ok (decide (e % 4 = 3)) = _; rw [decide_eq_true he]),uW]
   show (nQ (.lst (([]:List Ln).map (bu h))) (.lst [])).bind fY = _
   rw [yP hg]; rfl
  ·rw [List.concat_eq_append] at *
   have il:aw (.lst ((M++[y]).map (bu h))) (.int (-1)) = .ok (bu h y):=by
    rw [List.map_append]; exact Aq (M.map (bu h)) (bu h y)
   have cond:dH (bO d4 (m1 (cU 4) (m2 aw (mB 6) (mC (.int 4)))) (mC (.int 3))) (dH (bO nQ (mB 3) (bW ai)) (bU (m2 aw (m2 aw (mB 3) (mC (.int (-1)))) (mC (.int 1))))) (⟨eL ns h (ad (.x 0)) (M++[y]) (b8 (M++[y])) (some (.v (.int (k:Nat)))) (some (.v (.lst [.int a,.int b,.int cc,.int d,.int e,.int f]))) (some (.v (.int v))) (some (.v (aN h ⟨v,k,true⟩))) none,τ⟩:Ev) = .ok y.st:=by
    rw [n9 (by show Rs.ok (decide (e % 4 = 3)) = _; rw [decide_eq_true he]),n9]
    ·show (((aw (.lst ((M++[y]).map (bu h))) (.int (-1))).bind λz=>aw z (.int 1)).bind gk) = _
     rw [il,Rs.aq]; rfl
    ·show (nQ (.lst ((M++[y]).map (bu h))) (.lst [])).bind fY = _
     rw [yP hg,show (M++[y]).isEmpty = false from by simp]; rfl
   cases hs:y.st with
   | false=>exact aG (qc (cond.trans (by rw [hs])) other)
   | true=>
     refine aG (sS (cond.trans (by rw [hs])) ?_)
     have i0:m2 aw (m2 aw (mB 3) (mC (.int (-1)))) (mC (.int 0)) = λρ=>((mB 3 ρ).bind λz=>aw z (.int (-1))).bind λz=>aw z (.int 0):=rfl
     refine aG (se (sF (gS (p:=ad (.x 0)) (l:=[.int y.day,.int ((M++[y]).length:Nat)]) rfl (eB B) (by kernel_rfl) ?_ rfl ((E9 B hg o.dd hkk o.nd (by omega) hs).imp ?_))))
     ·refine bA ?_ (bA ?_ rfl)
      ·show Rs.ok (Dv.int (b8 (M++[y]))) = _
       rw [fq]
      ·show Rs.ok (Dv.int (((M++[y]).map (bu h)).length:Nat)) = _
       rw [List.length_map]
     rintro r ⟨τ',ad',c',st',rfl,B',a0⟩
     refine ⟨_,τ',[aN h y],.bl true,rfl,bA ?_ rfl,mX (n:=5) (Eu 4 h y),τ',rfl,ke ?_⟩
     ·show ((aw (.lst ((M++[y]).map (bu h))) (.int (-1))).bind λz=>aw z (.int 0)) = _
      rw [il,Rs.aq]; rfl
     refine js (ρ':=⟨eL ns h (ad (.x 0)) (M++[{ y with st:=false }]) (b8 (M++[{ y with st:=false }])) (some (.v (.int (k:Nat)))) (some (.v (.lst [.int a,.int b,.int cc,.int d,.int e,.int f]))) (some (.v (.int v))) (some (.v (aN h ⟨v,k,true⟩))) none,τ'⟩) ?_ rfl ?_
     ·unfold wJ
      rw [Ay (l:=[aN h y,.bl false]) (bA (by
       show ((aw (.lst ((M++[y]).map (bu h))) (.int (-1))).bind λz=>aw z (.int 0)) = _
       rw [il,Rs.aq]; rfl) rfl),Rs.aq]
      show (match kE ((M++[y]).map (bu h)).length (-1) with | some j=>Rs.ok (Fl.nx _) | none=>.bad) = _
      have ej:kE ((M++[y]).map (bu h)).length (-1) = some M.length:=by
       rw [List.length_map,List.length_append]
       unfold kE
       simp
       omega
      rw [ej]
      show Rs.ok (Fl.nx (⟨[_,_,_,some (.m (((M++[y]).map (bu h)).set M.length (.tup [aN h y,.bl false]))),_,_,_,_,_,_,_],τ'⟩:Ev)) = _
      rw [LI,fq,fq]
     ·have tk:=ud (Φ:=λr=>∃ ρ',r = .nx ρ'/\IL ns h (ad (.x 0)) (k+1) ρ') (ns:=ns) (x5:=some (.v (.int (k:Nat)))) (x6:=some (.v (.lst [.int a,.int b,.int cc,.int d,.int e,.int f]))) (x7:=some (.v (.int v))) (x8:=some (.v (aN h ⟨v,k,true⟩))) (x9:=none) B' (by simp at hl ⊢; omega) ⟨_,rfl,τ',ad',c',st',_,_,_,_,_,by rw [a0],B',a0,o.MY⟩
      rw [a0] at tk
      exact tk
 ·refine aG (qc (uW ?_) other)
  show Rs.ok (decide (e % 4 = 3)) = _
  rw [decide_eq_false he]
end
end My
end
section
namespace My
open PySem L2
theorem Jp {α:Type} (f:Str->Dv) (l:List (Str×α)):n0 (l.map λx=>((.inr x.1:Key),f x.1)) = some (l.map (·.1)):=by
 induction l with
 | nil=>rfl
 | cons x r ih=>show (n0 (r.map λx=>((.inr x.1:Key),f x.1))).map (x.1::·) = _; rw [ih]; rfl
theorem Kz (k:Nat):(ct (cj (k:Nat)) 0).length<=sizeLine:=by
 have:=CA (iy (n:=(k:Nat)) (by omega))
 unfold ct r6
 rw [fw,List.length_append]
 have:=cM
 simp only [List.length_cons,List.length_nil]
 omega
def jE (L:List Ln):List Str:=L.map λx=>ct (cj (x.k:Nat)) 0
section
variable {ad:Slot->Addr} {c:Slot->Option Ob} {st:iK} {h:List Nat} {L M:List Ln}
theorem FZ (W:Own τ ad c) (m:Sem ad c st) (K:SK h M st) (hl:M.length < 64):kA τ [.ob (ad .S)] = .ok (.lst ((fv (jE M)).map Dv.str)):=by
 refine gL rfl ?_
 show ((di ["Store"] "papers" τ (.ob (ad .S))).bind (zk τ)).bind _ = _
 rw [vi (fc W m),Rs.aq]
 have e:zk τ (.ob (ad .P)) = .ok (.lst ((fv (jE M)).map Dv.str)):=by
  unfold zk
  rw [dY (W.at_ _ _ m.p)]
  dsimp only
  rw [Jp (λx=>.ob (ad (.pap x))),K.p]
  dsimp only
  rw [if_pos]
  ·rfl
  ·refine ⟨by rw [List.length_map]; exact hl,List.all_eq_true.mpr λy hy=>?_⟩
   obtain ⟨x,_,rfl⟩:=List.mem_map.mp hy
   exact decide_eq_true (Kz x.k)
 rw [e]; rfl
theorem Ik:fu τ [.lst (L.map (bu h))] = .ok (.lst ((L.filter (·.st)).map (aN h))):=by
 refine gL rfl ?_
 unfold k6 aQ bW
 have e:cH (cX (mB 0)) 1 [] (gN 0) (bU (m2 aw (mB 0) (mC (.int 1)))) (m2 aw (mB 0) (mC (.int 0))) (aE 1 τ [.lst (L.map (bu h))]) = .ok ((L.filter (·.st)).map (aN h)):=by
  show cb (cE (gN 0) (bU (m2 aw (mB 0) (mC (.int 1)))) (m2 aw (mB 0) (mC (.int 0))) (L.map (bu h)) (⟨[none],τ⟩:Ev)) = _
  rw [rq (cap:=[]) (λd=>match d with | .tup [_,.bl b]=>b | _=>false) (λd=>match d with | .tup [r,_]=>r | _=>.non) _ _ (λd hd=>by
   obtain ⟨x,_,rfl⟩:=List.mem_map.mp hd; rfl) (λd hd _=>by
   obtain ⟨x,_,rfl⟩:=List.mem_map.mp hd; rfl)]
  show Rs.ok _ = Rs.ok _
  congr 1
  rw [List.filter_map,List.map_map]
  rfl
 rw [e]; rfl
theorem Hs (k:Nat):bX (.str (ao (cj (k:Nat)))) (.str "/1") = .ok (.str (ct (cj (k:Nat)) 0)):=by
 have e:("/1":Str) = ao [47,49]:=by decide +kernel
 have hl:=CA (iy (n:=(k:Nat)) (by omega))
 show (if (ao (cj (k:Nat))).length+ ("/1":Str).length<=sizeLine then Rs.ok (Dv.str (ao (cj (k:Nat))++"/1")) else .bad) = _
 rw [e,if_pos (by rw [fw,fw]; have:=cM; show _+2<=_; omega),kY]
 rfl
theorem F3 (h3:ρ[3]? = some (some (.v (.lst (L.map (bu h)))))) (hl:(L.filter (·.st)).length < 64):m1 rJ (bW (cH (cX (aI fu (aa (mV 3) ai))) 1 [] (gN 0) dC (m2 bX (m2 aw (mB 0) (mC (.int 2))) (mC (.str "/1"))))) ρ = .ok (.lst ((fv (jE (L.filter (·.st)))).map Dv.str)):=by
 have e:cH (cX (aI fu (aa (mV 3) ai))) 1 [] (gN 0) dC (m2 bX (m2 aw (mB 0) (mC (.int 2))) (mC (.str "/1"))) ρ = .ok ((jE (L.filter (·.st))).map Dv.str):=by
  unfold cH cX
  rw [gE (l:=[.lst (L.map (bu h))]) (bA (NT h3) rfl) Ik]
  show cb (cE (gN 0) dC (m2 bX (m2 aw (mB 0) (mC (.int 2))) (mC (.str "/1"))) ((L.filter (·.st)).map (aN h)) (⟨[none],ρ.t⟩:Ev)) = _
  rw [jq (cap:=[]) (λd=>match d with | .tup [_,_,.str n,_,_,_,_,_,_]=>(match bX (.str n) (.str "/1") with | .ok y=>y | _=>.non) | _=>.non) _ _ (λd hd=>by
   obtain ⟨x,_,rfl⟩:=List.mem_map.mp hd
   show (bX (.str (ao (cj (x.k:Nat)))) (.str "/1")) = Rs.ok (match bX (.str (ao (cj (x.k:Nat)))) (.str "/1") with | .ok y=>y | _=>.non)
   rw [Hs])]
  show Rs.ok _ = Rs.ok _
  congr 1
  unfold jE
  rw [List.map_map,List.map_map]
  refine List.map_congr_left λx _=>?_
  show (match bX (.str (ao (cj (x.k:Nat)))) (.str "/1") with | .ok y=>y | _=>.non) = _
  rw [Hs]; rfl
 unfold m1 bW
 rw [e]
 show rJ (.lst ((jE (L.filter (·.st))).map Dv.str)) = _
 exact Nf (by unfold jE; rw [List.length_map]; exact hl)
theorem Ke (o:Ok k L):0<=b8 L/\b8 L<=100000:=by
 rcases List.eq_nil_or_concat L with rfl | ⟨M,y,rfl⟩
 ·show (0:Int)<=0/\(0:Int)<=100000; decide
 ·rw [List.concat_eq_append] at o ⊢
  rw [fq]; exact o.dd y (by simp)
theorem IW (i:Int):∃ D:Int,aw (.lst [.int (-1),.int 100001,.int (-1 - i % 1000),.int (100001+i % 1000),.int (10 ^ (30:Int).toNat)]) (.int (i % 5)) = .ok (.int D)/\¬(0<=D/\D<=100000):=by
 obtain ⟨v,hv,ev⟩:=yZ (l:=[.int (-1),.int 100001,.int (-1 - i % 1000),.int (100001+i % 1000),.int (10 ^ (30:Int).toNat)]) i 5 (by decide) rfl
 have h0:=Int.emod_nonneg i (show (1000:Int)≠0 by decide)
 have h30:(10:Int) ^ (30:Int).toNat > 100000:=by decide +kernel
 simp only [List.mem_cons,List.not_mem_nil,or_false] at hv
 rcases hv with rfl | rfl | rfl | rfl | rfl
 ·exact ⟨_,ev,by omega⟩
 ·exact ⟨_,ev,by omega⟩
 ·exact ⟨_,ev,by omega⟩
 ·exact ⟨_,ev,by omega⟩
 ·exact ⟨_,ev,by omega⟩
end
theorem JF (ns:List Int):Ac (d3 11 BD) (λ_=>none) [.seq (ns.map .int)] (λr=>∃ τ,r = .ok (.bl true) τ):=by
 refine d7 ?_
 have e2:∀ τ:cw,c7 τ [.seq (ns.map .int),.int 2] = .ok (.int (eY ns 2)):=λτ=>y6 ns 2
 have e3:∀ τ:cw,c7 τ [.seq (ns.map .int),.int 3] = .ok (.int (eY ns 3)):=λτ=>y6 ns 3
 obtain ⟨b0,er,hb0,hb1⟩:=KY (τ:=λ_=>none) ns 1 1 (by omega)
 have hg:=DY (m:=1) hb0 (cj b0) (by simp [nN])
 have er:jy (λ_=>none) [.seq (ns.map .int),.int 1,.int 1] = .ok (.lst (c8 [cj b0])):=by
  have z:nN b0 1 = [cj b0]:=by simp [nN]
  rw [←z]; exact er
 generalize cj b0 = h at er hg
 refine aG (eJ (d:=.lst (c8 [h])) (gE (l:=[.seq (ns.map .int),.int 1,.int 1]) rfl er) ?_)
 refine aG (Bi (kg (l:=[.lst (c8 [h])]) rfl rfl λB0 hB=>(Fd aY hg).imp ?_))
 rintro r ⟨τ1,ad,c,st,rfl,a0,B⟩
 subst a0
 refine aG (El (l:=[]) rfl (aG (eJ (d:=.int 0) rfl ?_)))
 refine aG (rg ?_ ?_)
 ·rw [hX]
  ·rfl
  exact E2 (f:=5) (d:=.int 0) (d':=.int 0) (gf (p:=ad (.x 0)) (l:=[]) rfl (eB B) (by kernel_rfl) rfl (ui (eB B) (mK B))) rfl (.int _ _)
 obtain ⟨t2,ht2⟩:=Int.eq_ofNat_of_zero_le (Int.emod_nonneg (eY ns 2) (show (41:Int)≠0 by decide))
 have lt2:t2 < 41:=by have:=Int.emod_lt_of_pos (eY ns 2) (show (0:Int) < 41 by decide); omega
 have I0:IL ns h (ad (.x 0)) 0 (⟨eL ns h (ad (.x 0)) [] 0 none none none none none,τ1⟩:Ev):=⟨τ1,ad,c,st,[],_,_,_,_,rfl,B,rfl,⟨nofun,.nil,nofun,nofun,Nat.le_refl _⟩⟩
 refine aG (xF (l:=(List.range' 0 t2).map λj=>Dv.int (j:Nat)) ?_ (Al.imp (sV (IL ns h (ad (.x 0))) (N:=t2) ?_ t2 0 _ (Nat.zero_add _) I0) ?_))
 ·rw [←Lj]
  show (((c7 _ [.seq (ns.map .int),.int 2]).bind (cU 41)).bind λx=>Rs.ok [x]).bind j7 = _
  rw [e2,Rs.aq]
  show j7 [.int (eY ns 2 % 41)] = _
  rw [ht2]
  exact uG (by omega)
 ·rintro k ρ hk ⟨τ,ad',c,st,L,x5,x6,x7,x8,rfl,B,a0,o⟩
  refine ⟨_,rfl,rfl,?_⟩
  rw [←a0]
  exact iter B o hg (by omega)
 ·rintro r' ⟨ρ',rfl,τ,ad',c,st,L,x5,x6,x7,x8,rfl,B,a0,o⟩
  rw [←a0]
  refine aG (eJ (d:=.int (eY ns 3)) (gE (l:=[.seq (ns.map .int),.int 3]) rfl (e3 _)) ?_)
  obtain ⟨D,eD,hD⟩:=IW (eY ns 3)
  refine aG (se (Ak (l:=[.ob (ad' (.x 0)),.int D]) (bA rfl (bA eD rfl)) rfl ((zF B hD).imp ?_)))
  rintro r rfl
  refine ⟨τ,rfl,ke ?_⟩
  refine Ep rfl ?_
  have ll:L.length < 64:=by have:=o.len; omega
  have lf:(L.filter (·.st)).length < 64:=Nat.lt_of_le_of_lt (List.length_filter_le ..) ll
  refine aG (eJ (d:=.lst ((fv (jE (L.filter (·.st)))).map Dv.str)) (F3 rfl lf) ?_)
  refine Jn (sF (sF (gS (p:=ad' (.x 0)) (l:=[.int (b8 L)]) rfl (eB B) (by kernel_rfl) rfl rfl ((Ho B.bx hg (Ke o) o.so (λy hy=>by have:=o.kk y hy; omega) o.nd (by omega)).imp ?_))))
  rintro r ⟨τ',ad2,c2,st2,rfl,W2,m2,K2,_,_⟩
  refine ⟨_,τ',[],_,rfl,rfl,FZ W2 m2 K2 lf,_,τ',[.lst ((fv (jE (L.filter (·.st)))).map Dv.str)],.bl true,rfl,rfl,mX (n:=5) (Ju 4 ?_),τ',rfl⟩
  rw [kr]
  unfold jE
  rw [List.length_map]; omega
theorem Fq (ns:List Int) (hl:ns.length<=63) (r:Rw) (h:d3 11 BD (λ_=>none) [.seq (ns.map .int)] r):∃ τ,r = .ok (.bl true) τ:=JF ns r h
end My
end
namespace My
open PySem L2
section
open PySem.W
variable {w:World} {K:Frag} {mg:Str->Option Value} {h:Heap} {c:Str} {C:Addr} {x g:Str}
theorem O3 (X:K.In h) (G:h.Ns mainGlobals mg) (a:nsIn K mainGlobals c = some (some (.ref C))):mg c = some (.ref (aR mg c)):=by rw [oG X G a]; exact mg_of X G a
theorem Qc (X:K.In h) (G:h.Ns mainGlobals mg) (a:nsIn K mainGlobals c = some (some (.ref C))):aR mg c = dE K c:=(oG X G a).trans (kK a).symm
theorem OW (X:K.In h) (G:h.Ns mainGlobals mg) (a:nsIn K mainGlobals c = some (some (.ref C))):RelV (.ref (aR mg c)) (.ref C):=by rw [oG X G a]; rfl
def yk (K:Frag):List DictEntry->List (Str×Dv)->Prop
 | [],[]=>True
 | d::r,kv::rs=>(∃ t,d.key = .str kv.1 t)/\(∃ v,RelV v d.val/\∀ Z H,Rp K Z H kv.2 v)/\yk K r rs
 | _,_=>False
theorem yk.vs:∀ {l:List DictEntry} {kvs:List (Str×Dv)},yk K l kvs->∃ vs:List V,vs.length = kvs.length/\rN l (List.zip (kvs.map (·.1)) vs)/\∀ Z H,a7 K Z H (kvs.map (·.2)) vs
 | [],[],_=>⟨[],rfl,trivial,λ_ _=>rfl⟩
 | d::r,kv::rs,⟨k,⟨v,h1,h2⟩,h3⟩=>by
   obtain ⟨vs,l,e,p⟩:=yk.vs h3
   exact ⟨v::vs,by simp [l],⟨k,h1,e⟩,λZ H=>⟨_,_,rfl,h2 Z H,p Z H⟩⟩
theorem CP {kvs:List (Str×Dv)} {d:Addr} {es:Array DictEntry} {n:Nat} (X:K.In h) (G:h.Ns mainGlobals mg) (a:nsIn K mainGlobals x = some (some (.ref d)))
  (l:K.lookup d = some ⟨.type "dict",none,.dict es n,#[]⟩) (hs:(d == sysModules) = false) (hk:KeysLit w.params es.toList) (he:yk K es.toList kvs):pe K w mg x kvs:=by
 obtain ⟨vs,e,f,p⟩:=he.vs
 exact CN (w6 X G a l hs hk f) e p
theorem LL {c h:Str} {b:Bool} {p q:Str} {v:Bool} {r:Option Bool} (k:Mt K (.ref (aR mg p)) (aR mg q) v/\aR mg p = dE K p) (n:r = some b->Mt K (.ref (aR mg c)) (aR mg h) b/\aR mg c = dE K c) (e:(if c = p/\h = q then some v else r) = some b):Mt K (.ref (aR mg c)) (aR mg h) b/\aR mg c = dE K c:=by
 by_cases z:c = p/\h = q
 ·rw [if_pos z] at e; cases e; rw [z.1,z.2]; exact k
 ·rw [if_neg z] at e; exact n e
theorem O5 (a:nsIn K mainGlobals c = some (some (.ref C))) (b:u3 K C [g] = true):je K (dE K c)/\ib K (dE K c) g:=Mw a b (by simp)
theorem JA {d:Dv} {u:Value} (f:md d = true) (r:RelV (toV d) u):∃ v,RelV v u/\∀ Z H,Rp K Z H d v:=⟨_,r,λ_ _=>uU f⟩
theorem KQ {l:List Dv} {a:Addr} (t:xM K a l):∃ v,RelV v (.ref a)/\∀ Z H,Rp K Z H (.tup l) v:=⟨.ref a,rfl,t.rp⟩
theorem PH {d:Dv} {u:Value} (X:K.In h) (G:h.Ns mainGlobals mg) (a:nsIn K mainGlobals x = some (some u)) (f:md d = true) (r:RelV (toV d) u):fF K mg x d:=F6 (II X G a r) (λZ H=>uU f)
end
end My
namespace PySem.W.Fast
def tw8043286320635194860:=0
def tw12571670663049374806:=0
def tw15713876621852001110:=0
def tw8749752394388861289:=0
def tw10957704806891014228:=0
def tw16291059879521796872:=0
def tw9333910840486248448:=0
def tw15544211832610859735:=0
def tw14218004678102767225:=0
def tw10597268808026362214:=0
def tw10716132776676220121:=0
def tw9592318399358653235:=0
def tw1001002385540288672:=0
def tw11346597661973228059:=0
def tw7191479829252339636:=0
def tw16841698419275117242:=0
def tw3307897841500283646:=0
def tw9478763612684733513:=0
def tw13335380437159776099:=0
def tw9645808964981471192:=0
def tw14721371019056340052:=0
def tw6877019211199684817:=0
def tw10766105833994711657:=0
def tw6246680455222398781:=0
def tw2904761698574087838:=0
def tw11620796104843169030:=0
def tw8151165334471520015:=0
def tw7017493056399270751:=0
def tw6371491928503288932:=0
def tw4966429313653371816:=0
def tw10571153215846639337:=0
def tw16191079902881584858:=0
def tw3382546518829418800:=0
def tw12411040744724444372:=0
def tw17498709993329920978:=0
def tw16092410571400029948:=0
def tw14137204903189496412:=0
def tw8895079607798112269:=0
def tw6066455748020639031:=0
def tw18408605585337464074:=0
def tw10811434638240547332:=0
def tw11781076775934284005:=0
def tw15361436844687125746:=0
def tw10268753814478742656:=0
def tw15162032181194147628:=0
def tw7393454015404768918:=0
def tw6003512956774729705:=0
def tw7310003214967093766:=0
def tw5159172507938848470:=0
def tw13887370255698733727:=0
def tw15063960098972515782:=0
def tw3235424249902807723:=0
def tw743490173449693764:=0
def tw4869665253095070188:=0
def tw5179202629150680156:=0
def tw4768307899930236201:=0
def tw10474304964617095215:=0
def tw13186608592627866427:=0
def tw6957176454625481188:=0
def tw7102408519562740576:=0
def tw16275976114053072941:=0
def tw8415212371962041778:=0
def tw9925438185367921497:=0
def tw17216745199131175598:=0
def tw4733893062220938771:=0
def tw17790003789309473261:=0
def tw7086487735524398490:=0
def tw4329142899470997798:=0
def tw5530213213744070538:=0
def tw16522926274790886507:=0
def tw6022075514860136269:=0
def tw13928155225773351180:=0
def tw6279854656643788072:=0
def tw6254905704294138356:=0
def tw7906488100013728458:=0
def tw6900823104959498336:=0
def tw6048099130204219918:=0
def tw17347155038153969877:=0
def tw11521728222878671009:=0
def tw1342334228243964090:=0
def tw10647852613758786075:=0
def tw10382858607601772032:=0
def tw10806774187726549256:=0
def tw2655306299785225312:=0
def tw913930891024326976:=0
def tw3075195910909262016:=0
def tw13486220071763451881:=0
def tw2925325512253512632:=0
def tw2967512105360380219:=0
def tw10949687842744750143:=0
def tw4254446389833242967:=0
def tw2535494130060731406:=0
def tw5495863458853520599:=0
def tw1910685866444237476:=0
def tw9929533662366304587:=0
def tw14478321982462476612:=0
def tw17541629700716927584:=0
def tw928790154139316304:=0
def tw12849438114218920795:=0
def tw7121098858791115363:=0
def tw661374216489647053:=0
def tw10738288287784710068:=0
def tw4869302838998406457:=0
def tw17693052285794166202:=0
def tw4483057512868428213:=0
def tw2821471265236500663:=0
def tw16495993112256736449:=0
def tw190980876170606981:=0
def tw12864651104008265609:=0
def tw3378748937126045305:=0
def tw6676015205705657741:=0
def tw2062785402609274896:=0
def tw12055592680130849492:=0
def tw7974131274947173899:=0
def tw11545438883558178394:=0
def tw15884341288039226739:=0
def tw13445445700303000476:=0
def tw16358155023236521999:=0
def tw9109300436793166872:=0
def tw14569015019306286235:=0
def tw10230999005369865207:=0
def tw2565099975228191162:=0
def tw5050399776233127115:=0
def tw6888292634234976213:=0
def tw8624890595808007127:=0
def tw6833125861032494187:=0
def tw9619476337705381474:=0
def tw12383719199511376884:=0
def tw6553715660466007366:=0
def tw10914997919100114391:=0
def tw2692509654304624230:=0
def tw11461079654546056118:=0
def tw18003041380939208772:=0
def tw17771969121800825734:=0
def tw7398898145451715429:=0
def tw12774509525591871411:=0
def tw16561063764522334801:=0
def tw16966369064420231901:=0
def tw7990503810984767896:=0
def tw8421084130621156626:=0
def tw9760929241537409099:=0
def tw13929126524534058517:=0
def tw17192599306037221990:=0
def tw453142773699977966:=0
def tw11320980827400425870:=0
def tw619478102428017956:=0
def tw2658831353808360036:=0
def tw13062571458281301005:=0
def tw18344417656343633626:=0
def tw15621307330859689197:=0
def tw18236304891797871458:=0
def tw13896946417460016606:=0
def tw17364727756026078370:=0
def tw10334066252479627966:=0
def tw1999640479130784704:=0
def tw17752558050518363906:=0
def tw16211865982210020534:=0
def tw5551246887797430920:=0
def tw916676258056462333:=0
def tw17038822209999443756:=0
def tw12219418454445061217:=0
def tw8851408844734044800:=0
def tw11663169642186410943:=0
def tw4619770938005934158:=0
def tw10228530384866680516:=0
def tw11959084673720073328:=0
def tw5683086642051178530:=0
def tw15355964416082103668:=0
def tw7309124937033997033:=0
def tw5170958414557136304:=0
def tw12770613556901669211:=0
def tw2709876841390799689:=0
def tw12929871046654557044:=0
def tw14023525367508812844:=0
def tw4272830716530945666:=0
def tw11947340026626671258:=0
def tw9742915159612829474:=0
def tw13213801170576076439:=0
def tw3366317974699534241:=0
def tw8922302864899815395:=0
def tw7683043033019527652:=0
def tw16643107136710598352:=0
def tw13016503437572226978:=0
def tw110835329180685887:=0
def tw7730926754450560353:=0
def tw7070319005327272670:=0
def tw7459047714877741530:=0
def tw16111186145753414350:=0
def tw17041889764447009635:=0
def tw13025182308576508705:=0
def tw14416117940332909014:=0
def tw5662745514221109696:=0
def tw17342995797281985010:=0
def tw8968842839485560780:=0
def tw12674532838533625736:=0
def tw8535039693006595509:=0
def tw5939581179264824446:=0
def tw15794062918590398015:=0
def tw13867672954937125593:=0
def tw4328667504680206475:=0
def tw12016573121090854710:=0
def tw4518472153069573251:=0
def tw13069345767163603979:=0
def tw4073029684468042788:=0
def tw1768619749817585161:=0
def tw17833502955457365088:=0
def tw3986152523969070313:=0
def tw12035143579917148073:=0
def tw10111003786416030511:=0
def tw11571535697628118518:=0
def tw8238805014771372567:=0
def tw17798722433461068551:=0
def tw7698439926462940958:=0
def tw12227266748536407456:=0
def tw10142438523859238301:=0
def tw13359446715530451610:=0
def tw74890230315527991:=0
def tw1341210580949627216:=0
def tw8443320603438318009:=0
def tw9726783186890230114:=0
def tw17873001640340440666:=0
def tw9799420962621853433:=0
def tw5413863428878369700:=0
def tw5808517024929193417:=0
def tw18446577882196664728:=0
def tw4856011742604173439:=0
def tw3185731528474257646:=0
def tw16335315993525761080:=0
def tw11714807248948513605:=0
def tw15551221851870724319:=0
def tw14012377044857926525:=0
def tw10646148516773257205:=0
def tw18219173555590447318:=0
def tw8670977080087206463:=0
def tw7788694368531527363:=0
def tw16721933948440929155:=0
def tw4429562630780861560:=0
def tw14718105110852487412:=0
def tw12295129673393683432:=0
def tw1040938964734128107:=0
def tw8176121785053768719:=0
def tw9935016060040342921:=0
def tw1555303434341612228:=0
def tw14543915994960584980:=0
def tw9982624515354974825:=0
def tw2656983990180860874:=0
def tw5451258629024450844:=0
def tw16571649885041222893:=0
def tw16274425840555775878:=0
def tw16164830705068714562:=0
def tw775140219970097630:=0
def tw3031214473306908723:=0
def tw13737720998272919412:=0
def tw15640626946076273236:=0
def tw5598144352563512416:=0
def tw3642170688970385271:=0
def tw12370609987399252794:=0
def tw17644070612786049747:=0
def tw11197356366728620368:=0
def tw2819839314821393141:=0
def tw8793977972398256016:=0
def tw14283663736506275210:=0
def tw6617886220981912108:=0
def tw13844818232073332946:=0
def tw12209464440412110778:=0
def tw16024947318014683231:=0
def tw13310829621272978919:=0
def tw2661732563905455802:=0
def tw16476127761995824102:=0
def tw17602831116018921177:=0
def tw12584593026782923925:=0
def tw4912413887499886382:=0
def tw16925362271540820185:=0
def tw9500082599775661221:=0
def tw15685760106641961466:=0
def tw18416600528348405718:=0
def tw2085104089352104842:=0
def tw15179390386537523819:=0
def tw7301549066201048678:=0
def tw17085383673395320088:=0
def tw3335117813316602292:=0
def tw9990227147254193864:=0
def tw11434791767387943682:=0
def tw14227839021686598530:=0
def tw10810498065097030457:=0
def tw10084505353089319679:=0
def tw17198166979564587120:=0
def tw10418139899623145251:=0
def tw15720231545249790601:=0
def tw13768310530845159572:=0
def tw18163087517511762665:=0
def tw9961007352198188136:=0
def tw18190797409388725662:=0
def tw16329718484902859251:=0
def tw18050352592670360392:=0
def tw11635733313256799897:=0
def tw13178726870593811429:=0
def tw18199868491061218803:=0
def tw4076515226293709309:=0
def tw1955602198343512247:=0
def tw15754209990127695140:=0
def tw4355286863010346705:=0
def tw7253678736998176213:=0
def tw799975352239602889:=0
def tw5232644465820930216:=0
def tw6298999556204363296:=0
def tw4447956057516534586:=0
def tw17097676965010890585:=0
def tw16754214105965527706:=0
def tw1784501366977475784:=0
def tw1234113009085713197:=0
def tw3626769670879084650:=0
def tw10650765173853626424:=0
def tw17936907492052616900:=0
def tw17369940444714524223:=0
def tw6358734133133046459:=0
def tw10864799911476219638:=0
def tw1674741243125550264:=0
def tw11153418842422677301:=0
def tw17545119605370761890:=0
def tw7011796187873698911:=0
def tw15454055592309197776:=0
def tw931720256405515676:=0
def tw18420755678226741193:=0
def tw16246150767039901296:=0
def tw10638105232043278332:=0
def tw7197481043803156937:=0
def tw2142759748860519008:=0
def tw15257689216453108513:=0
def tw15861153337054445095:=0
def tw17288619269028499856:=0
def tw12513984971519671796:=0
def tw17669341981821674767:=0
def tw18259169457520243921:=0
def tw17526987755618511900:=0
def tw574715629114960629:=0
def tw11949817134984939672:=0
def tw6897317862080150385:=0
def tw5709033759298762860:=0
def tw17086060061178844694:=0
def tw14685057440192642552:=0
def tw6423265582945847506:=0
def tw16451547575100014365:=0
def tw332907845180306748:=0
def tw15576407212449073847:=0
def tw5929253025865789993:=0
def tw6132002911724518239:=0
def tw7588986342996758806:=0
def tw13990992145531247206:=0
def tw9006669121124438812:=0
def tw6388180588814757152:=0
def tw16923775186319358376:=0
def tw11286676933731363168:=0
def tw5840853463429892358:=0
def tw4945177629415031966:=0
def tw13039994577685762179:=0
def tw13260973102507218390:=0
def tw15401034182480055258:=0
def tw5591067024379088801:=0
def tw9159666635176623076:=0
def tw7050268979275094665:=0
def tw860378924898805984:=0
def tw1313491699972285041:=0
def tw18188350616004820365:=0
def tw9662538382198449152:=0
def tw8721784354414745966:=0
def tw16429246491180176879:=0
def tw9122885792965240994:=0
def tw7030035032095899496:=0
def tw3287139167413041347:=0
def tw6402651145912129148:=0
def tw1897718511927525811:=0
def tw17621877763107192997:=0
def tw14094446784223431283:=0
def tw14735608208696977613:=0
def tw8930156194476027920:=0
def tw7029322595771921114:=0
def tw6743549928823477143:=0
def tw13736281446414155822:=0
def tw2839918118401422302:=0
def tw2225175564157474273:=0
def tw9031561680034734207:=0
def tw7431074482435433024:=0
def tw10456105198822854298:=0
def tw12561108854550918908:=0
def tw10077798702317186291:=0
def tw15028516164834188983:=0
def tw13127429720842135125:=0
def tw12491164519361243895:=0
def tw571803687944586597:=0
def tw1973499642053750165:=0
def tw8610867081750749374:=0
def tw7643585498615040057:=0
def tw16685249397747389945:=0
def tw15867887294536089561:=0
def tw11873386695551290215:=0
def tw7796075294891455297:=0
def tw160064566418989775:=0
def tw3035086573137032661:=0
def tw1103664943496493232:=0
def tw5681972566103285323:=0
def tw5097227447591279316:=0
def tw14250168547549949598:=0
def tw11432233530307339542:=0
def tw1177028801585004898:=0
def tw4846626552407998156:=0
def tw2906114741174476852:=0
def tw6407138291379110126:=0
def tw12067320367136039880:=0
def tw3569935027114093244:=0
def tw17309812589021125683:=0
def tw11308933200106916788:=0
def tw8254542158688019784:=0
def tw16502584939549256193:=0
def tw11548523517055630018:=0
def tw2478052147390299307:=0
def tw16270435417470162877:=0
def tw10856123678825187892:=0
def tw1809273734096571281:=0
def tw12289518760507184750:=0
def tw11387514756647393427:=0
def tw9075767253921121126:=0
def tw3445353078678854752:=0
def tw15630352175795138852:=0
def tw1391097274929881706:=0
def tw15562850519017446057:=0
def tw1607060029289745710:=0
def tw8772749296469968808:=0
def tw6653465864712233118:=0
def tw8502068957050283270:=0
def tw16148070052317530973:=0
def tw1422229089272022697:=0
def tw11450602171508014424:=0
def tw16163076084064456071:=0
def tw8672906114017051903:=0
def tw15464777664648345437:=0
def tw7860606829256509439:=0
def tw17553892174388542861:=0
def tw6376483841429747836:=0
def tw17516507122399308160:=0
def tw8097633718001251714:=0
def tw971437697988354852:=0
def tw17601158130587164091:=0
def tw3285152939988546252:=0
def tw3426739754517887676:=0
def tw6335771860638785369:=0
def tw7419106478364074665:=0
def tw1700769906310773095:=0
def tw9391306469932302943:=0
def tw18116475141145937398:=0
def tw15316552405814812458:=0
def tw7458998793349386201:=0
def tw2133224904250386516:=0
def tw1011732754052826791:=0
def tw9261727139140197235:=0
def tw1360630881146104400:=0
def tw8161019559830943022:=0
def tw5468274779926777872:=0
def tw6708057655037965435:=0
def tw11990062158536524407:=0
def tw7307974567916794742:=0
def tw2890199607758387238:=0
def tw7337805831695481818:=0
def tw18019658731392165831:=0
def tw8956875061876231857:=0
def tw12032396476933867091:=0
def tw16233482290662305581:=0
def tw7729316758767168075:=0
def tw15985996495446485035:=0
def tw13434457679523839630:=0
def tw9373010043068313838:=0
def tw95084397161677610:=0
def tw5131866060064545014:=0
def tw13622468813227633514:=0
def tw10944331778770254232:=0
def tw11844394126987858962:=0
def tw16347674701683181606:=0
def tw16757405658450812641:=0
def tw5744250428744098072:=0
def tw14502843845036285739:=0
def tw16681841857653330987:=0
def tw10833913616151256166:=0
def tw7358919357309431077:=0
def tw13836808836145564495:=0
def tw10076960354859375152:=0
def tw8516794438003150994:=0
def tw17575341142341421585:=0
def tw3178108146854529547:=0
def tw6655919075515060688:=0
def tw15950943467969024957:=0
def tw13181459519045683875:=0
def tw9997779872490397732:=0
def tw150375920652778859:=0
def tw2367504259715497990:=0
def tw15683236394710856977:=0
def tw14779114530748971705:=0
def tw17990117261770127063:=0
def tw8384887345216308445:=0
def tw10284142774731638588:=0
def tw7251702193342852043:=0
def tw3102164684747983792:=0
def tw13157378806458355942:=0
def tw15552951378403816033:=0
def tw4228316129110420015:=0
def tw17701953531946589885:=0
def tw12418278382623430379:=0
def tw16333855648129213319:=0
def tw642915328937777954:=0
def tw2447279538038753410:=0
def tw1965841156362716745:=0
def tw16200526996568910016:=0
def tw10202442357735559952:=0
def tw6227540982499961472:=0
def tw5414535284206095590:=0
def tw7818667291486390686:=0
def tw3860599609571427415:=0
def tw9153931625196626676:=0
def tw6937304419696192176:=0
def tw62046341842100042:=0
def tw5047204891570913872:=0
def tw3751111935760228620:=0
def tw10199747817684602932:=0
def tw15347012244054993793:=0
def tw16508444914450265259:=0
def tw11562751624534757159:=0
def tw11058367367113106733:=0
def tw9568303126673426739:=0
def tw6499070898190887076:=0
def tw9152963473968055049:=0
def tw14395979202018586593:=0
def tw18120067541309066016:=0
def tw12131389970852491661:=0
def tw11891160950097682134:=0
def tw6251502813193984387:=0
def tw6579254753997868195:=0
def tw2514370578667975572:=0
def tw5309351338604057996:=0
def tw13425944231633412967:=0
def tw37651054653362954:=0
def tw2294116128929672525:=0
def tw8886449681361637672:=0
def tw1929692207521912949:=0
def tw6798366748486977742:=0
def tw8074528719994821561:=0
def tw10489323049488177423:=0
def tw15690819401613249466:=0
def tw12087231974675144267:=0
def tw3564918804247299957:=0
def tw11094616896667440930:=0
def tw16054297212948736361:=0
def tw2115503557577871405:=0
def tw10463615145890872758:=0
def tw9509898141881813270:=0
def tw12204876588019436610:=0
def tw14035661688120192713:=0
def tw15817034848094944928:=0
def tw2134572290963958589:=0
def tw16561982917205451914:=0
def tw13384577310758139105:=0
def tw5907171097951505255:=0
def tw17726795971462325531:=0
def tw1172876079479813691:=0
def tw17836120733240904689:=0
def tw14610879984859025137:=0
def tw4193104261351095352:=0
def tw13157181690391664362:=0
def tw9067128925337792503:=0
def tw9638313109472747237:=0
def tw14421815073083549462:=0
def tw6274419945189700054:=0
def tw4058669678165590818:=0
def tw3187756924501582571:=0
def tw8425556096974932328:=0
def tw17617421740410864847:=0
def tw6013688604856565868:=0
def tw5004984090603013962:=0
def tw3029684707062615236:=0
def tw10118071050583970389:=0
def tw16117641364315043435:=0
def tw7397822320788826127:=0
def tw16179423927650778282:=0
def tw9721507753793151797:=0
def tw18341157523323452543:=0
def tw8753982286219678246:=0
def tw17878958185651869602:=0
def tw169585984969041934:=0
def tw4096989542482356659:=0
def tw2749243488771308244:=0
def tw11729339839161243015:=0
def tw9469759446377409902:=0
def tw12696327217258551829:=0
def tw11210123285404547923:=0
def tw767233334772135366:=0
def tw13827884736837449886:=0
def tw10759333721468375087:=0
def tw11926248166920851840:=0
def tw4475691506963929197:=0
def tw9864820482259423313:=0
def tw8626136422961547134:=0
def tw12870516262352558507:=0
def tw16171657687051085366:=0
def tw13923006919258731975:=0
def tw4213827647031009094:=0
def tw14208203310707575059:=0
def tw3303593227887765586:=0
def tw1212280954034293211:=0
def tw40320729583439884:=0
def tw10407541877228930042:=0
def tw15834949329991638096:=0
def tw1458440193593324492:=0
def tw7471255214153548745:=0
def tw6853793480263709210:=0
def tw7470467226601283174:=0
def tw17516091993306746257:=0
def tw17441929848983871501:=0
def tw15698987701380835192:=0
def tw15821639171473676550:=0
def tw911386047938685524:=0
def tw10553154872945631710:=0
def tw5391489141633656957:=0
def tw11382260022802778074:=0
def tw3643957122699517006:=0
def tw4126675189507077179:=0
def tw4325150930034268232:=0
def tw13772301078183575866:=0
def tw9108645874412679692:=0
def tw1197065463198537057:=0
def tw2923902138057939894:=0
def tw9779365919217573231:=0
def tw6024293310171716273:=0
def tw15189443586558491506:=0
def tw2423575816943410937:=0
def tw17735069748478797669:=0
def tw8332441194529568579:=0
def tw3827719089918271936:=0
def tw4462662863653662450:=0
def tw9928076976118092732:=0
def tw17865053971103350263:=0
def tw16427518681266229454:=0
def tw125865199482396842:=0
def tw17404717837521149225:=0
def tw17856412622235831196:=0
def tw884103421057012977:=0
def tw15006346476182475648:=0
def tw16235509847933796210:=0
def tw4923413186543835983:=0
def tw12851820832275980087:=0
def tw17203445441477962710:=0
def tw9205302962644448847:=0
def tw15386656392730704386:=0
def tw10483851903131418216:=0
def tw8490155575218792656:=0
def tw6836991894504895445:=0
def tw8674928509969130833:=0
def tw7322430134748106194:=0
def tw1241584042315387496:=0
def tw17839863400465192:=0
def tw747926528439744836:=0
def tw14718326259433759442:=0
def tw11614419142735168280:=0
def tw4189867678123104561:=0
def tw2566263058405409767:=0
def tw16257564499455469869:=0
def tw310557802946172792:=0
def tw3411163474800626063:=0
def tw15867687441825416137:=0
def tw1910479052921202677:=0
def tw17630650503580002185:=0
def tw10495996456144185703:=0
def tw3302988545427074345:=0
def tw12274092211568508603:=0
def tw13974148342377605609:=0
def tw15727207234122063563:=0
def tw4237307919137456836:=0
def tw6974469074556381880:=0
def tw10398493740420256917:=0
def tw18189216966368447827:=0
def tw13319532933627748643:=0
def tw680758113964957769:=0
def tw14259017912155154149:=0
def tw2802688631133224382:=0
def tw1964091276808655556:=0
def tw6965389735745931128:=0
def tw11519128602854641846:=0
def tw13324759686176270349:=0
def tw4293142681151446261:=0
def tw13133828157987610060:=0
def tw15728221116831938133:=0
def tw6550888726020431108:=0
def tw2706624994332899637:=0
def tw11636278721663351719:=0
def tw1655085755777781233:=0
def tw5782202162545489940:=0
def tw8180461346656619476:=0
def tw11760100536099533793:=0
def tw7474372694339236630:=0
def tw3786675261260939784:=0
def tw8633214214393537869:=0
def tw10697702597656450367:=0
def tw15175865627007431195:=0
def tw9746137073250219136:=0
def tw11181552681015546417:=0
def tw13745444835890921534:=0
def tw6185091941135989953:=0
def tw10731582589478638235:=0
def tw5529064637787489935:=0
def tw6314188854655518924:=0
def tw13270858162950432521:=0
def tw14671068593799455500:=0
def tw12276416775814660618:=0
def tw5216855512023371070:=0
def tw17402496007861259793:=0
def tw16889041600957836522:=0
def tw10234700408232617031:=0
def tw9351305298547884611:=0
def tw4786466440506812373:=0
def tw12630028988787653912:=0
def tw12071203438668070644:=0
def tw2224159503353051287:=0
def tw4971312205177660255:=0
def tw8877973180776309435:=0
def tw3806133439381987563:=0
def tw15449281027670868046:=0
def tw9684873779097893218:=0
def tw11197427854509354128:=0
def tw7311465648097058773:=0
def tw14770886026291697049:=0
def tw18253073123121107388:=0
def tw18180869215212133487:=0
def tw13441827070178771986:=0
def tw9186449644200803700:=0
def tw1508468185974502626:=0
def tw3788285566991779460:=0
def tw16315650394914375300:=0
def tw15267548101043412976:=0
def tw17841040060136590731:=0
def tw1172905623634895633:=0
def tw16380721091396268407:=0
def tw15347544663782523047:=0
def tw4236372083961579590:=0
def tw8836838064223388289:=0
def tw6471300543507888944:=0
def tw8348504885367913012:=0
def tw16040100504773068599:=0
def tw17171423261371163662:=0
def tw9340196551701411711:=0
def tw135087407486187118:=0
def tw16056054048453586921:=0
def tw11872007321165569218:=0
def tw4324587749300023788:=0
def tw9313238851689453588:=0
def tw4644495370111137929:=0
def tw6363744342725937634:=0
def tw17598859664229567297:=0
def tw12286354383728058079:=0
def tw3239904922330888527:=0
def tw698539988414358657:=0
def tw2642713743280960927:=0
def tw13608267824633502583:=0
def tw12924715093500995912:=0
def tw773303253422491243:=0
def tw2617314553616684913:=0
def tw13073449966199934451:=0
def tw4944022283092089807:=0
def tw7341906892031151516:=0
def tw9635487821642312109:=0
def tw15668426524455141302:=0
def tw16808264287502554588:=0
def tw17671349492276816836:=0
def tw12597749872285162807:=0
def tw6630794545331105811:=0
def tw5225815070377566648:=0
def tw5493752433262463661:=0
def tw9594888102892275037:=0
def tw2709327873321677888:=0
def tw592777415945879821:=0
def tw6348580928551056308:=0
def tw4337031662276418804:=0
def tw15285334821941479437:=0
def tw1415072100056178204:=0
def tw7201411698811069296:=0
def tw14719171713932920885:=0
def tw17019819034120159412:=0
def tw13454643160499821521:=0
def tw17027395273533994682:=0
def tw12533736305266746627:=0
def tw14226514868121621898:=0
def tw9841811973398768076:=0
def tw788483650560134005:=0
def tw9692365193496992598:=0
def tw10094257224481082185:=0
def tw15727326629939143359:=0
def tw7180301416839518175:=0
def tw1509910750829567366:=0
def tw11116200913920533556:=0
def tw2646849953369972458:=0
def tw5217450183392289277:=0
def tw17096873548318927518:=0
def tw14074960241468269673:=0
def tw16356934745630188314:=0
def tw4074830077472613335:=0
def tw10209412836033667978:=0
def tw10369560418590357774:=0
def tw16880393876532791557:=0
def tw8275410164701607039:=0
def tw11621600458545326747:=0
def tw5000318675523703728:=0
def tw774472014778366503:=0
def tw2663845134906142515:=0
def tw7900235589235604813:=0
def tw10282320182063573711:=0
def tw1714743193272678707:=0
def tw17208050810210622145:=0
def tw10009355572318192781:=0
def tw16135213869232976213:=0
def tw10548686608783871034:=0
def tw2386747180516485670:=0
def tw7934780492738208044:=0
def tw2088501470139335371:=0
def tw6732653865061614901:=0
def tw14580667052782277966:=0
def tw13548976022847503303:=0
def tw18272681583219195089:=0
def tw16881932148412283023:=0
def tw13200811823435307059:=0
def tw18214149302019896681:=0
def tw11812112322625101068:=0
def tw6618988930751473277:=0
def tw3206272758196643350:=0
def tw13416998812749584943:=0
def tw10895786764926072473:=0
def tw3650115940614894212:=0
def tw11334092925765199599:=0
def tw9949038539284618974:=0
def tw1948174517543432475:=0
def tw12501032854349268358:=0
def tw15709866358336554559:=0
def tw6922158920381247165:=0
def tw11589745060294553294:=0
def tw7184037440315682697:=0
def tw3933672941588559924:=0
def tw9776019932065845580:=0
def tw9641353785728674071:=0
def tw16922129619092246939:=0
def tw18205951683834136589:=0
def tw16114361777833167516:=0
def tw11110167819348647457:=0
def tw1015978573063442909:=0
def tw5065582968641575591:=0
def tw1167335580382260988:=0
def tw5148448456433101221:=0
def tw10012401005954132652:=0
def tw9132259793653166863:=0
def tw2902436162478037284:=0
def tw4676998248084968941:=0
def tw8464342988704569679:=0
def tw1414848028673102100:=0
def tw3806398548224218431:=0
def tw6053074658499854108:=0
def tw10062609035886702530:=0
def tw5450005259560500774:=0
def tw13589900094519437252:=0
def tw11537056524771782730:=0
def tw418054134801268219:=0
def tw13737725406203392939:=0
def tw16510516793161563843:=0
def tw6523213209341424441:=0
def tw12782642840922617961:=0
def tw11711535490347178985:=0
def tw2882851032399780746:=0
def tw10659350559283806575:=0
def tw18127832280205719917:=0
def tw10615237544834632881:=0
def tw4342262813070307794:=0
def tw6622163856548409577:=0
def tw3199347779164902502:=0
def tw9696840301230364221:=0
def tw6092462001545951723:=0
def tw4949113139599680984:=0
def tw3150031061623716787:=0
def tw10815090576981311824:=0
def tw6144944660835075834:=0
def tw362264806043588440:=0
def tw7632987475024850982:=0
def tw8938519739508720891:=0
def tw9827081980817904318:=0
def tw7214526635634349257:=0
def tw13860044157964917715:=0
def tw1635153519571927015:=0
def tw10560901712470379465:=0
def tw5190851090481446806:=0
def tw31278274926799549:=0
def tw17418263591494894304:=0
def tw16431795055774240407:=0
def tw11563500861235771609:=0
def tw17066707624005391744:=0
def tw13215111218867028198:=0
def tw10225285707389208057:=0
def tw5959121363622691994:=0
def tw2777530884062126495:=0
def tw10339278028430495071:=0
def tw12581163847079550643:=0
def tw17183345680975603412:=0
def tw15926645869477560321:=0
def tw1905223420024547760:=0
def tw10460528221242461271:=0
def tw14634908685543232387:=0
def tw16840595703403333235:=0
def tw12243109491210724191:=0
def tw3619465763986944609:=0
def tw16081598447635385112:=0
def tw7497167644891344293:=0
def tw760108107802950075:=0
def tw3391639644132330851:=0
def tw10568758312276968979:=0
def tw1585657074119698903:=0
def tw9518369279491879558:=0
def tw7284685385730712306:=0
def tw8772723655498971314:=0
def tw18040270938772694735:=0
def tw13562115066704687684:=0
def tw5691330999143923582:=0
def tw737906227220979060:=0
def tw3533242246243112900:=0
def tw5876539362973525639:=0
def tw14336222102825398164:=0
def tw6554758122862436295:=0
def tw4191420584167640508:=0
def tw392347843082188506:=0
def tw3338903923367018766:=0
def tw9343331815252442961:=0
def tw2729759673223015797:=0
def tw3053185365431681485:=0
def tw319978371324080554:=0
def tw2489083387635797795:=0
def tw15025145214878967016:=0
def tw17109735047163093642:=0
def tw5944506107969437648:=0
def tw15554950435548942318:=0
def tw18317302500637691782:=0
def tw312593336396519018:=0
def tw11605659033958364807:=0
def tw3420694128236877526:=0
def tw10443426547515034658:=0
def tw4011942612895435766:=0
def tw18279746707381987097:=0
def tw13437825525292185799:=0
def tw14579893233636142740:=0
def tw16351445131934157887:=0
def tw7544903285307913300:=0
def tw17616388156502509358:=0
def tw3052919712156737908:=0
def tw1724175071826838590:=0
def tw8847866858670623252:=0
def tw15190552551988438497:=0
def tw12882434603083090753:=0
def tw17599123618949186477:=0
def tw16584165515142775105:=0
end PySem.W.Fast
open PySem PySem.W PyProof.Rows
open My L2
local macro_rules
| `(tpT 0)=>`(Jk (by k_is) (by decide) (by repeat first | exact .nil | refine .cons ⟨_,rfl⟩ ?_) (by decide +kernel) (by decide))
| `(bdT 0)=>`(λ_ _ _ _ _ _ us hl=>by rcases us with _ | ⟨_,_ | ⟨_,_ | ⟨_,_ | ⟨_,_ | ⟨_,_ | ⟨_,_⟩⟩⟩⟩⟩⟩ <;> first | rfl | (exfalso; simp only [List.length] at hl; omega))
| `(keT 0)=>`(by repeat first | exact trivial | refine ⟨⟨_,_,rfl,rfl⟩,?_⟩)
set_option maxRecDepth 100000 in
set_option maxHeartbeats 0 in
theorem PySem.Challenge.cw_ladingchain_k23_days_never_fall_holds : PySem.Challenge.rw_ladingchain_k23_days_never_fall.Holds := by
 w_on; o_law; k_head; (case hw=>w_witness2)
 k_fill
 refine L2.EX (l:=PySem.Challenge.rw_ladingchain_k23_days_never_fall) (st:=My.tp) (x:="_law_script") 10 rfl rfl ⟨rfl,by decide,by decide⟩ (λw h Y=>PySem.W.kIn_of Y) ?F
 case F=>
  intro w mg h KX G
  have T:My.Txt w (L2.Oq KX) mg:=by
   dsimp only [L2.Oq]
   constructor
   all_goals first
    | exact De KX G (by k_is) (by k_is) (by kernel_rfl) (by kernel_rfl) (bdT 0)
    | exact Bt KX G (by k_is) (by kernel_rfl) (by k_is) (by k_is) (by kernel_rfl) (bdT 0)
    | exact B9 (fs:=[]) (by k_is) (by kernel_rfl) (by k_is) (by k_is) (by kernel_rfl) (bdT 0)
    | (repeat first | exact LP | refine JE (O5 (by k_is) (by kernel_rfl)) ?_); done
    | exact PH KX G (by k_is) (by decide +kernel) ⟨_,rfl⟩
    | exact BK KX G (by k_is) (tpT 0)
    | exact Mf KX G (by k_is) (by k_exc)
    | exact mg_none_of KX G (by k_is)
    | exact O3 KX G (by k_is)
    | exact CP KX G (by k_is) (by k_is) (by rfl) (keT 0) (by repeat first | exact trivial | refine ⟨⟨_,rfl⟩,by first | exact JA (by decide +kernel) ⟨_,rfl⟩ | exact KQ (tpT 0),?_⟩)
    | exact w6 KX G (by k_is) (by k_is) (by rfl) (keT 0) (by repeat first | exact trivial | refine ⟨⟨_,rfl⟩,OW KX G (by k_is),?_⟩)
    | (intro c h b; unfold Ca; (repeat refine LL (MR KX G (by k_is) (by k_is) (by k_exc) (by k_exc) (by kernel_rfl)) ?_); exact nofun)
  exact ⟨T.N6,λf fd base F=>My.IS My.Fq F T⟩
