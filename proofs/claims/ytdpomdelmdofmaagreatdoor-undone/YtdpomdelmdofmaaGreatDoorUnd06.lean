import Derived.Test.YtdpomdelmdofmaaGreatDoorUnd05
import Derived.Maps.OwnSet
import Derived.Lib.Builder
import Derived.Lib.AppendStr
import Derived.Lib.Strings
import Derived.Laws.Externs
namespace Go.Proofs.YtdpomdelmdofmaaGreatDoor
open Go.Proofs.Tryz
section
open Go.RowKit
def RV(v:Value):Option (DataW Value×List MemPlace):=some (.held v,[])
def VB(w:World)(b:Nat)(k:Int)(n:Sp.Nm)(s:Sp.By)(sl mp:Value):Prop :=
 w.heap[b]? = some (.cells #[.int .i64 k,.bool n.1,.string ⟨n.2.1.toArray⟩,.int .i64 n.2.2,.string ⟨s.toArray⟩,sl,mp] 111 (0,0))
abbrev n0:Sp.Nm:=(false,[],0)
def Al{α β:Type}(P:α->β->Prop):List α->List β->Prop
 | [],[]=>True
 | a::r,b::s=>P a b/\Al P r s
 | _,_=>False
def Pt(P:Value->Sp.V->Prop):List (Lit×DataW Value)->List (Lit×Sp.V)->Prop
 | [],[]=>True
 | a::r,b::s=>(a.1=b.1 /\ ∃x,a.2 = .held x/\P x b.2)/\Pt P r s
 | _,_=>False
def Rep:Nat->(Nat->Prop)->World->Value->Sp.V->Prop
 | 0,_,_,_,_=>False
 | f+1,F,w,v,d=>∃b,v = .pointer (some ⟨b,0,none⟩)/\F b /\
  ((∃k:Nat,k<3/\d=Sp.BV k/\VB w b k n0 [] (.slice none 0 0) (.map none)) \/
   (∃n,d=Sp.Bj n/\VB w b 3 n [] (.slice none 0 0) (.map none) /\ -100000000<=n.2.2/\n.2.2<=100000000) \/
   (∃s,d=Sp.Az s/\VB w b 4 n0 s (.slice none 0 0) (.map none)) \/
   (∃es sl ps,d=Sp.Ar es/\VB w b 5 n0 [] sl (.map none)/\w.ownsRow 0 80 1 sl ps.length ps/\(∀g,sl.ownBlock=some g->F g)/\Al (Rep f F w) ps es) \/
   (∃es m n D,d=Sp.Av es/\VB w b 6 n0 [] (.slice none 0 0) (.map (some m))/\F m/\w.ownsMap Tryz.prog 9 RV m n (.map D)/\Pt (Rep f F w) D es))
theorem Al.mono{α β:Type}{P Q:α->β->Prop}(h:∀a b,P a b->Q a b):∀ {l:List α} {m:List β},Al P l m->Al Q l m
 | [],[],_=>trivial
 | _::_,_::_,⟨a,b⟩=>⟨h _ _ a,Al.mono h b⟩
theorem Al.snoc{α β:Type}{P:α->β->Prop}{a:α}{b:β}(h:P a b):∀ {l:List α} {m:List β},Al P l m->Al P (l++[a]) (m++[b])
 | [],[],_=>⟨h,trivial⟩
 | _::_,_::_,⟨c,d⟩=>⟨c,Al.snoc h d⟩
theorem Al.length{α β:Type}{P:α->β->Prop}:∀ {l:List α} {m:List β},Al P l m->l.length=m.length
 | [],[],_=>rfl
 | _::_,_::_,⟨_,d⟩=>congrArg (· + 1) (Al.length d)
theorem Al.get{α β:Type}{P:α->β->Prop}:∀ {l:List α} {m:List β},Al P l m -> ∀ (i:Nat) (hi:i<l.length) (hj:i<m.length),P l[i] m[i]
 | _::_,_::_,⟨c,_⟩,0,_,_=>c
 | _::_,_::_,⟨_,d⟩,i+1,hi,hj=>Al.get d i (by simpa using hi) (by simpa using hj)
theorem Pt.mono{P Q:Value->Sp.V->Prop}(h:∀a b,P a b->Q a b):∀ {l:List (Lit×DataW Value)} {m:List (Lit×Sp.V)},Pt P l m->Pt Q l m
 | [],[],_=>trivial
 | _::_,_::_,⟨⟨k,x,e,a⟩,b⟩=>⟨⟨k,x,e,h _ _ a⟩,Pt.mono h b⟩
theorem Pt.filter{P:Value->Sp.V->Prop}(c:Lit->Bool):∀ {l:List (Lit×DataW Value)} {m:List (Lit×Sp.V)},Pt P l m->Pt P (l.filter fun p=>c p.1) (m.filter fun p=>c p.1)
 | [],[],_=>trivial
 | a::r,b::s,⟨⟨k,x,e,h⟩,t⟩=>by
  simp only[List.filter_cons];rw[k];split
  ·exact⟨⟨k,x,e,h⟩,Pt.filter c t⟩
  ·exact Pt.filter c t
theorem Pt.insert{P:Value->Sp.V->Prop}(k:Lit)(x:Value)(v:Sp.V)(h:P x v):∀ {l:List (Lit×DataW Value)} {m:List (Lit×Sp.V)},Pt P l m->Pt P (DataW.insert (k,.held x) l) (DataW.insert (k,v) m)
 | [],[],_=>⟨⟨rfl,x,rfl,h⟩,trivial⟩
 | a::r,b::s,⟨⟨kk,y,e,g⟩,t⟩=>by
  simp only[DataW.insert];rw[kk];split
  ·exact⟨⟨rfl,x,rfl,h⟩,⟨kk,y,e,g⟩,t⟩
  ·exact⟨⟨kk,y,e,g⟩,Pt.insert k x v h t⟩
theorem Pt.has{P:Value->Sp.V->Prop}(k:Lit):∀ {l:List (Lit×DataW Value)} {m:List (Lit×Sp.V)},Pt P l m->Maps.has (.map l) k=Maps.has (.map m) k
 | [],[],_=>rfl
 | a::r,b::s,⟨⟨kk,_⟩,t⟩=>by
  have:=Pt.has k t;simp only[Maps.has,List.any_cons] at this |-;rw[kk,this]
theorem AZ{w w':World}{B e n:Nat}{v:Value}{xs:List Value}(h:w.ownsRow B e 1 v n xs)(hk:∀g,v.ownBlock=some g->w'.heap[g]? = w.heap[g]?):w'.ownsRow B e 1 v n xs:=by
 refine⟨h.1,h.2.imp id ?_⟩;rintro⟨g,cap,cur,h1,h2,h3,h4⟩;exact⟨g,cap,cur,h1,h2,(hk g (by rw[h1];rfl)).trans h3,h4⟩
theorem AA{w:World}{B e n:Nat}{v:Value}{xs:List Value}(h:w.ownsRow B e 1 v n xs)(g:Nat)(hg:v.ownBlock=some g):g<w.heap.size/\B<=g:=by
 rcases h.2 with⟨h1,_⟩|⟨g',cap,cur,h1,h2,h3,_⟩
 ·rw[h1] at hg;cases hg
 ·rw[h1] at hg;injection hg with hg;subst hg;exact⟨(Array.getElem?_eq_some_iff.1 h3).1,h2⟩
theorem B0{w:World}{m n:Nat}{D:DataW Value}(h:w.ownsMap Tryz.prog 9 RV m n D):m<w.heap.size:=by
 obtain⟨es,clock,hb,_⟩:=h;exact (Array.getElem?_eq_some_iff.1 hb).1
theorem AJ{w w':World}{m n:Nat}{D:DataW Value}(h:w.ownsMap Tryz.prog 9 RV m n D)(hk:w'.heap[m]? = w.heap[m]?):w'.ownsMap Tryz.prog 9 RV m n D:=by
 obtain⟨es,clock,hb,r⟩:=h;exact⟨es,clock,hk.trans hb,r⟩
theorem VB.lt{w:World}{b:Nat}{k:Int}{n:Sp.Nm}{s:Sp.By}{sl mp:Value}(h:VB w b k n s sl mp):b<w.heap.size:=(Array.getElem?_eq_some_iff.1 h).1
theorem VB.kept{w w':World}{b:Nat}{k:Int}{n:Sp.Nm}{s:Sp.By}{sl mp:Value}(h:VB w b k n s sl mp)(hk:w'.heap[b]? = w.heap[b]?):VB w' b k n s sl mp:=hk.trans h
theorem Rep.move{F F':Nat->Prop}{w w':World}(hF:∀k,F k->k<w.heap.size->w'.heap[k]? = w.heap[k]? /\ F' k):∀ {f:Nat} {v:Value} {d:Sp.V},Rep f F w v d->Rep f F' w' v d:=by
 intro f;induction f with
 | zero=>intro v d h;exact h
 | succ f ih =>
  intro v d h;obtain⟨b,hv,hb,h⟩:=h;rcases h with⟨k,hk,hd,h⟩|⟨n,hd,h,hbd⟩|⟨s,hd,h⟩|⟨es,sl,ps,hd,h,ho,hs,ha⟩|⟨es,m,n,D,hd,h,hm,ho,hp⟩
  ·have g:=hF b hb h.lt;exact⟨b,hv,g.2,Or.inl ⟨k,hk,hd,h.kept g.1⟩⟩
  ·have g:=hF b hb h.lt;exact⟨b,hv,g.2,Or.inr (Or.inl ⟨n,hd,h.kept g.1,hbd⟩)⟩
  ·have g:=hF b hb h.lt;exact⟨b,hv,g.2,Or.inr (Or.inr (Or.inl ⟨s,hd,h.kept g.1⟩))⟩
  ·have g:=hF b hb h.lt;exact⟨b,hv,g.2,Or.inr (Or.inr (Or.inr (Or.inl ⟨es,sl,ps,hd,h.kept g.1,AZ ho (fun g' hg=>(hF g' (hs g' hg) (AA ho g' hg).1).1),fun g' hg=>(hF g' (hs g' hg) (AA ho g' hg).1).2,ha.mono (fun _ _=>ih)⟩)))⟩
  ·have g:=hF b hb h.lt;have g2:=hF m hm (B0 ho);exact⟨b,hv,g.2,Or.inr (Or.inr (Or.inr (Or.inr ⟨es,m,n,D,hd,h.kept g.1,g2.2,AJ ho g2.1,hp.mono (fun _ _=>ih)⟩)))⟩
theorem Rep.ptr{f:Nat}{F:Nat->Prop}{w:World}{v:Value}{d:Sp.V}(h:Rep f F w v d):∃b,v = .pointer (some ⟨b,0,none⟩)/\b<w.heap.size/\F b:=by
 cases f with
 | zero=>exact h.elim
 | succ f =>
  obtain⟨b,hv,hb,h⟩:=h;refine⟨b,hv,?_,hb⟩;rcases h with⟨k,hk,hd,h⟩|⟨n,hd,h,hbd⟩|⟨s,hd,h⟩|⟨es,sl,ps,hd,h,ho,hs,ha⟩|⟨es,m,n,D,hd,h,hm,ho,hp⟩;all_goals exact h.lt
end

section
open Go.RowKit
namespace Sp
abbrev A:=DataW Unit
def nd(b g:Nat)(x:A):A:=.agg [.lit (.int .i64 b),.lit (.int .i64 g),x]
def str:Nat->A->V
 | 0,_=>.nil
 | f+1,a=>match a with
  | .agg [.lit (.int _ _),.lit (.int _ _),x]=>(match x with
   | .slice al _=>Ar (al.map (str f))
   | .map es=>Av (es.map fun p=>(p.1,str f p.2))
   | y=>y)
  | _=>.nil
def fp:Nat->A->List Nat
 | 0,_=>[]
 | f+1,a=>match a with
  | .agg [.lit (.int _ b),.lit (.int _ g),x]=>b.toNat::(match x with
   | .slice al _=>(if g=0 then [] else [g.toNat])++al.flatMap (fp f)
   | .map es=>g.toNat::es.flatMap (fun p=>fp f p.2)
   | _=>[])
  | _=>[]
theorem Tn(f b g k:Nat):str (f+1) (nd b g (BV k))=BV k:=rfl
theorem VI(f b g:Nat)(n:Nm):str (f+1) (nd b g (Bj n))=Bj n:=rfl
theorem VG(f b g:Nat)(s:By):str (f+1) (nd b g (Az s))=Az s:=rfl
theorem Bo(f b g:Nat)(al:List A):str (f+1) (nd b g (.slice al []))=Ar (al.map (str f)):=rfl
theorem Ba(f b g:Nat)(es:List (Lit×A)):str (f+1) (nd b g (.map es))=Av (es.map fun p=>(p.1,str f p.2)):=rfl
theorem EB(f b g k:Nat):fp (f+1) (nd b g (BV k))=[b]:=rfl
theorem Fw(f b g:Nat)(n:Nm):fp (f+1) (nd b g (Bj n))=[b]:=rfl
theorem Fv(f b g:Nat)(s:By):fp (f+1) (nd b g (Az s))=[b]:=rfl
theorem AQ(f b g:Nat)(al:List A):fp (f+1) (nd b g (.slice al []))=b::((if g=0 then [] else [g])++al.flatMap (fp f)):=by
 show ((b:Int).toNat::((if (g:Int)=0 then [] else [(g:Int).toNat])++al.flatMap (fp f)))=_;by_cases h:g=0
 ·subst h;rfl
 ·rw[if_neg h,if_neg (by omega)];rfl
theorem Bi(f b g:Nat)(es:List (Lit×A)):fp (f+1) (nd b g (.map es))=b::g::es.flatMap (fun p=>fp f p.2):=rfl
end Sp
def Ae:Nat->World->Value->Sp.A->Prop
 | 0,_,_,_=>False
 | f+1,w,v,a=>∃b g x,a=Sp.nd b g x/\v = .pointer (some ⟨b,0,none⟩) /\
  ((∃k:Nat,k<3/\g=0/\x=Sp.BV k/\VB w b k n0 [] (.slice none 0 0) (.map none)) \/
   (∃n,g=0/\x=Sp.Bj n/\VB w b 3 n [] (.slice none 0 0) (.map none) /\ -100000000<=n.2.2/\n.2.2<=100000000) \/
   (∃s,g=0/\x=Sp.Az s/\VB w b 4 n0 s (.slice none 0 0) (.map none)) \/
   (∃al sl ps,x = .slice al []/\VB w b 5 n0 [] sl (.map none)/\w.ownsRow 0 80 1 sl ps.length ps/\sl.ownBlock=(if g=0 then none else some g)/\Al (Ae f w) ps al) \/
   (∃es n D,x = .map es/\VB w b 6 n0 [] (.slice none 0 0) (.map (some g))/\w.ownsMap Tryz.prog 9 RV g n (.map D)/\Pt (Ae f w) D es))
theorem Al.mem{α β:Type}{P Q:α->β->Prop}:∀ {l:List α} {m:List β},(∀a b,b∈m->P a b->Q a b)->Al P l m->Al Q l m
 | [],[],_,_=>trivial
 | _::_,_::_,h,⟨a,b⟩=>⟨h _ _ (by simp) a,Al.mem (fun a b hb hp=>h a b (by simp[hb]) hp) b⟩
theorem Pt.mem{P Q:Value->Sp.V->Prop}:∀ {l:List (Lit×DataW Value)} {m:List (Lit×Sp.V)},(∀a p,p∈m->P a p.2->Q a p.2)->Pt P l m->Pt Q l m
 | [],[],_,_=>trivial
 | _::_,_::_,h,⟨⟨k,x,e,a⟩,b⟩=>⟨⟨k,x,e,h _ _ (by simp) a⟩,Pt.mem (fun a p hp hq=>h a p (by simp[hp]) hq) b⟩
theorem Al.mapR{α β γ:Type}{P:α->γ->Prop}{q:β->γ}:∀ {l:List α} {m:List β},Al (fun a b=>P a (q b)) l m->Al P l (m.map q)
 | [],[],_=>trivial
 | _::_,_::_,⟨a,b⟩=>⟨a,Al.mapR b⟩
theorem Pt.mapR{P:Value->Sp.V->Prop}{q:Sp.V->Sp.V}:∀ {l:List (Lit×DataW Value)} {m:List (Lit×Sp.V)},Pt (fun a b=>P a (q b)) l m->Pt P l (m.map fun p=>(p.1,q p.2))
 | [],[],_=>trivial
 | _::_,_::_,⟨⟨k,x,e,a⟩,b⟩=>⟨⟨k,x,e,a⟩,Pt.mapR b⟩
theorem CZ{sl:Value}{g k:Nat}(h:sl.ownBlock=(if g=0 then none else some g))(hk:sl.ownBlock=some k):k=g/\g≠0:=by
 rw[h] at hk;split at hk
 ·cases hk
 ·rename_i hg;exact⟨(Option.some.inj hk).symm,hg⟩
theorem Ae.move{w w':World}:∀ {f:Nat} {v:Value} {a:Sp.A},(∀k∈Sp.fp f a,w'.heap[k]? = w.heap[k]?)->Ae f w v a->Ae f w' v a
 | 0,_,_,_,h=>h.elim
 | f+1,v,a,hk,h=>by
  obtain⟨b,g,x,rfl,hv,h⟩:=h;rcases h with⟨k,h1,h2,rfl,h⟩|⟨n,h2,rfl,h,hbd⟩|⟨s,h2,rfl,h⟩|⟨al,sl,ps,rfl,h,ho,hs,ha⟩|⟨es,n,D,rfl,h,ho,hp⟩
  ·exact⟨b,g,_,rfl,hv,Or.inl ⟨k,h1,h2,rfl,h.kept (hk b (by rw[Sp.EB];simp))⟩⟩
  ·exact⟨b,g,_,rfl,hv,Or.inr (Or.inl ⟨n,h2,rfl,h.kept (hk b (by rw[Sp.Fw];simp)),hbd⟩)⟩
  ·exact⟨b,g,_,rfl,hv,Or.inr (Or.inr (Or.inl ⟨s,h2,rfl,h.kept (hk b (by rw[Sp.Fv];simp))⟩))⟩
  ·rw[Sp.AQ] at hk;refine⟨b,g,_,rfl,hv,Or.inr (Or.inr (Or.inr (Or.inl ⟨al,sl,ps,rfl,h.kept (hk b (by simp)),AZ ho fun g' hg'=>?_,hs,Al.mem (fun u c hc hu=>Ae.move (fun k hkc=>hk k ?_) hu) ha⟩)))⟩
   ·obtain⟨rfl,h0⟩:=CZ hs hg';exact hk _ (by simp[h0])
   ·exact List.mem_cons_of_mem _ (List.mem_append_right _ (List.mem_flatMap.2 ⟨c,hc,hkc⟩))
  ·rw[Sp.Bi] at hk;refine⟨b,g,_,rfl,hv,Or.inr (Or.inr (Or.inr (Or.inr ⟨es,n,D,rfl,h.kept (hk b (by simp)),AJ ho (hk g (by simp)),Pt.mem (fun u p hp hu=>Ae.move (fun k hkc=>hk k ?_) hu) hp⟩)))⟩;exact List.mem_cons_of_mem _ (List.mem_cons_of_mem _ (List.mem_flatMap.2 ⟨p,hp,hkc⟩))
theorem Ae.ptr{f:Nat}{w:World}{v:Value}{a:Sp.A}(h:Ae f w v a):∃b,v = .pointer (some ⟨b,0,none⟩)/\b<w.heap.size/\b∈Sp.fp f a:=by
 cases f with
 | zero=>exact h.elim
 | succ f =>
  obtain⟨b,g,x,rfl,hv,h⟩:=h;refine⟨b,hv,?_,?_⟩
  ·rcases h with⟨k,_,_,rfl,h⟩|⟨n,_,rfl,h,_⟩|⟨s,_,rfl,h⟩|⟨al,sl,ps,rfl,h,_⟩|⟨es,n,D,rfl,h,_⟩
   all_goals exact h.lt
  ·rcases h with⟨k,_,_,rfl,h⟩|⟨n,_,rfl,h,_⟩|⟨s,_,rfl,h⟩|⟨al,sl,ps,rfl,h,_⟩|⟨es,n,D,rfl,h,_⟩
   ·rw[Sp.EB];simp
   ·rw[Sp.Fw];simp
   ·rw[Sp.Fv];simp
   ·rw[Sp.AQ];simp
   ·rw[Sp.Bi];simp
theorem Al.right{α β:Type}{P:α->β->Prop}{b:β}:∀ {l:List α} {m:List β},Al P l m->b∈m -> ∃a,P a b
 | [],[],_,h=>by cases h
 | a::_,c::_,⟨h1,h2⟩,h=>by
  rcases List.mem_cons.1 h with rfl|h
  ·exact⟨a,h1⟩
  ·exact Al.right h2 h
theorem Pt.right{P:Value->Sp.V->Prop}{p:Lit×Sp.V}:∀ {l:List (Lit×DataW Value)} {m:List (Lit×Sp.V)},Pt P l m->p∈m -> ∃a,P a p.2
 | [],[],_,h=>by cases h
 | _::_,_::_,⟨⟨_,x,_,h1⟩,h2⟩,h=>by
  rcases List.mem_cons.1 h with rfl|h
  ·exact⟨x,h1⟩
  ·exact Pt.right h2 h
theorem Ae.lt{w:World}:∀ {f:Nat} {v:Value} {a:Sp.A},Ae f w v a -> ∀k∈Sp.fp f a,k<w.heap.size
 | 0,_,_,h=>h.elim
 | f+1,v,a,h=>by
  intro k hk;obtain⟨b,g,x,rfl,hv,h⟩:=h;rcases h with⟨j,_,_,rfl,h⟩|⟨n,_,rfl,h,_⟩|⟨s,_,rfl,h⟩|⟨al,sl,ps,rfl,h,ho,hs,ha⟩|⟨es,n,D,rfl,h,ho,hp⟩
  ·rw[Sp.EB] at hk;obtain rfl:k=b:=by simpa using hk
   exact h.lt
  ·rw[Sp.Fw] at hk;obtain rfl:k=b:=by simpa using hk
   exact h.lt
  ·rw[Sp.Fv] at hk;obtain rfl:k=b:=by simpa using hk
   exact h.lt
  ·rw[Sp.AQ] at hk;rcases List.mem_cons.1 hk with rfl|hk
   ·exact h.lt
   ·rcases List.mem_append.1 hk with hk|hk
    ·split at hk
     ·cases hk
     ·rename_i h0;obtain rfl:k=g:=by simpa using hk
      exact (AA ho k (by rw[hs,if_neg h0])).1
    ·obtain⟨c,hc,hkc⟩:=List.mem_flatMap.1 hk;obtain⟨u,hu⟩:=ha.right hc;exact Ae.lt hu k hkc
  ·rw[Sp.Bi] at hk;rcases List.mem_cons.1 hk with rfl|hk
   ·exact h.lt
   ·rcases List.mem_cons.1 hk with rfl|hk
    ·exact B0 ho
    ·obtain⟨p,hpm,hkc⟩:=List.mem_flatMap.1 hk;obtain⟨u,hu⟩:=hp.right hpm;exact Ae.lt hu k hkc
theorem Ae.rep{F:Nat->Prop}{w:World}:∀ {f:Nat} {v:Value} {a:Sp.A},(∀k∈Sp.fp f a,F k)->Ae f w v a->Rep f F w v (Sp.str f a)
 | 0,_,_,_,h=>h.elim
 | f+1,v,a,hF,h=>by
  obtain⟨b,g,x,rfl,hv,h⟩:=h;rcases h with⟨k,h1,h2,rfl,h⟩|⟨n,h2,rfl,h,hbd⟩|⟨s,h2,rfl,h⟩|⟨al,sl,ps,rfl,h,ho,hs,ha⟩|⟨es,n,D,rfl,h,ho,hp⟩
  ·exact⟨b,hv,hF b (by rw[Sp.EB];simp),Or.inl ⟨k,h1,rfl,h⟩⟩
  ·exact⟨b,hv,hF b (by rw[Sp.Fw];simp),Or.inr (Or.inl ⟨n,rfl,h,hbd⟩)⟩
  ·exact⟨b,hv,hF b (by rw[Sp.Fv];simp),Or.inr (Or.inr (Or.inl ⟨s,rfl,h⟩))⟩
  ·rw[Sp.AQ] at hF;refine⟨b,hv,hF b (by simp),Or.inr (Or.inr (Or.inr (Or.inl ⟨al.map (Sp.str f),sl,ps,Sp.Bo _ _ _ _,h,ho,fun g' hg'=>?_,Al.mapR (Al.mem (fun u c hc hu=>Ae.rep (fun k hkc=>hF k ?_) hu) ha)⟩)))⟩
   ·obtain⟨rfl,h0⟩:=CZ hs hg';exact hF _ (by simp[h0])
   ·exact List.mem_cons_of_mem _ (List.mem_append_right _ (List.mem_flatMap.2 ⟨c,hc,hkc⟩))
  ·rw[Sp.Bi] at hF;refine⟨b,hv,hF b (by simp),Or.inr (Or.inr (Or.inr (Or.inr ⟨es.map (fun p=>(p.1,Sp.str f p.2)),g,n,D,Sp.Ba _ _ _ _,h,hF g (by simp),ho,Pt.mapR (Pt.mem (fun u p hp hu=>Ae.rep (fun k hkc=>hF k ?_) hu) hp)⟩)))⟩;exact List.mem_cons_of_mem _ (List.mem_cons_of_mem _ (List.mem_flatMap.2 ⟨p,hp,hkc⟩))
def Tr(f lo:Nat)(w:World)(v:Value)(d:Sp.V):Prop:=∃a,Ae f w v a/\Sp.str f a=d/\(Sp.fp f a).Nodup /\ ∀k∈Sp.fp f a,lo<=k
theorem Tr.rep{f lo:Nat}{w:World}{v:Value}{d:Sp.V}(h:Tr f lo w v d):Rep f (fun k=>lo<=k) w v d:=by
 obtain⟨a,h1,rfl,_,h3⟩:=h;exact h1.rep h3
theorem Tr.move{f lo lo':Nat}{w w':World}{v:Value}{d:Sp.V}(h:Tr f lo w v d)(hl:lo'<=lo)(hk:∀k,lo<=k->k<w.heap.size->w'.heap[k]? = w.heap[k]?):Tr f lo' w' v d:=by
 obtain⟨a,h1,h2,h3,h4⟩:=h;exact⟨a,h1.move fun k hka=>hk k (h4 k hka) (h1.lt k hka),h2,h3,fun k hka=>Nat.le_trans hl (h4 k hka)⟩
theorem Tr.ptr{f lo:Nat}{w:World}{v:Value}{d:Sp.V}(h:Tr f lo w v d):∃b,v = .pointer (some ⟨b,0,none⟩)/\b<w.heap.size/\lo<=b:=by
 obtain⟨a,h1,_,_,h4⟩:=h;obtain⟨b,e,hb,hm⟩:=h1.ptr;exact⟨b,e,hb,h4 b hm⟩
theorem Tr.leafW{f lo b k:Nat}{w:World}(hb:lo<=b)(hk:k<3)(h:VB w b k n0 [] (.slice none 0 0) (.map none)):Tr (f+1) lo w (.pointer (some ⟨b,0,none⟩)) (Sp.BV k) :=
 ⟨Sp.nd b 0 (Sp.BV k),⟨b,0,_,rfl,rfl,Or.inl ⟨k,hk,rfl,rfl,h⟩⟩,rfl,by rw[Sp.EB];simp,by rw[Sp.EB];simpa using hb⟩
theorem Tr.leafN{f lo b:Nat}{n:Sp.Nm}{w:World}(hb:lo<=b)(h:VB w b 3 n [] (.slice none 0 0) (.map none))(h1:-100000000<=n.2.2/\n.2.2<=100000000):Tr (f+1) lo w (.pointer (some ⟨b,0,none⟩)) (Sp.Bj n) :=
 ⟨Sp.nd b 0 (Sp.Bj n),⟨b,0,_,rfl,rfl,Or.inr (Or.inl ⟨n,rfl,rfl,h,h1⟩)⟩,rfl,by rw[Sp.Fw];simp,by rw[Sp.Fw];simpa using hb⟩
theorem Tr.leafS{f lo b:Nat}{s:Sp.By}{w:World}(hb:lo<=b)(h:VB w b 4 n0 s (.slice none 0 0) (.map none)):Tr (f+1) lo w (.pointer (some ⟨b,0,none⟩)) (Sp.Az s) :=
 ⟨Sp.nd b 0 (Sp.Az s),⟨b,0,_,rfl,rfl,Or.inr (Or.inr (Or.inl ⟨s,rfl,rfl,h⟩))⟩,rfl,by rw[Sp.Fv];simp,by rw[Sp.Fv];simpa using hb⟩
def TrL(f lo:Nat)(own:Option Nat)(w:World)(ps:List Value)(es:List Sp.V):Prop :=
 ∃al:List Sp.A,Al (Ae f w) ps al/\al.map (Sp.str f)=es/\(al.flatMap (Sp.fp f)).Nodup /\ ∀k∈al.flatMap (Sp.fp f),lo<=k/\own≠some k
theorem TrL.nil(f lo:Nat)(own:Option Nat)(w:World):TrL f lo own w [] []:=⟨[],trivial,rfl,List.nodup_nil,fun k hk=>by cases hk⟩
theorem TrL.length{f lo:Nat}{own:Option Nat}{w:World}{ps:List Value}{es:List Sp.V}(h:TrL f lo own w ps es):ps.length=es.length:=by
 obtain⟨al,h1,rfl,_⟩:=h;rw[List.length_map];exact h1.length
theorem Al.lts{f:Nat}{w:World}{ps:List Value}{al:List Sp.A}(h:Al (Ae f w) ps al):∀k∈al.flatMap (Sp.fp f),k<w.heap.size:=by
 intro k hk;obtain⟨c,hc,hkc⟩:=List.mem_flatMap.1 hk;obtain⟨u,hu⟩:=h.right hc;exact hu.lt k hkc
theorem TrL.move{f lo:Nat}{own own':Option Nat}{w w':World}{ps:List Value}{es:List Sp.V}(h:TrL f lo own w ps es)(hk:∀k,lo<=k->own≠some k->k<w.heap.size->w'.heap[k]? = w.heap[k]? /\ own'≠some k):TrL f lo own' w' ps es:=by
 obtain⟨al,h1,h2,h3,h4⟩:=h;refine⟨al,Al.mem (fun u c hc hu=>hu.move fun k hkc=>?_) h1,h2,h3,fun k hka=>?_⟩
 ·exact⟨(h4 k hka).1,(hk k (h4 k hka).1 (h4 k hka).2 (h1.lts k hka)).2⟩
 ·have hm:k∈al.flatMap (Sp.fp f):=List.mem_flatMap.2 ⟨c,hc,hkc⟩;exact (hk k (h4 k hm).1 (h4 k hm).2 (h1.lts k hm)).1
theorem TrL.snoc{f lo:Nat}{own own':Option Nat}{w w2 w4:World}{ps:List Value}{es:List Sp.V}{v:Value}{d:Sp.V}(h:TrL f lo own w ps es)(hv:Tr f w.heap.size w2 v d)(hlo:lo<=w.heap.size)
  (hk:∀k,lo<=k->own≠some k->k<w.heap.size->w4.heap[k]? = w.heap[k]? /\ own'≠some k) (hkv:∀k,w.heap.size<=k->k<w2.heap.size->w4.heap[k]? = w2.heap[k]? /\ own'≠some k):TrL f lo own' w4 (ps++[v]) (es++[d]):=by
 obtain⟨al,h1,h2,h3,h4⟩:=h;obtain⟨a,g1,g2,g3,g4⟩:=hv;have hl:=h1.lts;have ha:∀k∈al.flatMap (Sp.fp f),w4.heap[k]? = w.heap[k]? /\ own'≠some k:=fun k hm=>hk k (h4 k hm).1 (h4 k hm).2 (hl k hm);refine⟨al++[a],Al.snoc (g1.move fun k hm=>(hkv k (g4 k hm) (g1.lt k hm)).1) (Al.mem (fun u c hc hu=>hu.move fun k hkc=>(ha k (List.mem_flatMap.2 ⟨c,hc,hkc⟩)).1) h1),by rw[List.map_append,h2];simp[g2],?_,?_⟩
 ·rw[List.flatMap_append,List.nodup_append];refine⟨h3,by simpa using g3,fun x hx y hy e=>?_⟩;have:=hl x hx;have:=g4 y (by simpa using hy);omega
 ·intro k hm;rw[List.flatMap_append] at hm;rcases List.mem_append.1 hm with hm|hm
  ·exact⟨(h4 k hm).1,(ha k hm).2⟩
  ·have hm:k∈Sp.fp f a:=by simpa using hm
   have:=g4 k hm;exact⟨by omega,(hkv k this (g1.lt k hm)).2⟩
theorem TrL.arr{f lo lo' b:Nat}{w:World}{sl:Value}{ps:List Value}{es:List Sp.V}(h:TrL f lo sl.ownBlock w ps es)(hb:lo'<=b)(hbl:b<lo)(hvb:VB w b 5 n0 [] sl (.map none))(ho:w.ownsRow 0 80 1 sl ps.length ps)
  (hs:∀g,sl.ownBlock=some g->lo<=g):Tr (f+1) lo' w (.pointer (some ⟨b,0,none⟩)) (Sp.Ar es):=by
 obtain⟨al,h1,rfl,h3,h4⟩:=h;have hbn:b ∉ al.flatMap (Sp.fp f):=fun hm=>by have:=(h4 b hm).1;omega
 cases hsl:sl.ownBlock with
 | none =>
  refine⟨Sp.nd b 0 (.slice al []),⟨b,0,_,rfl,rfl,Or.inr (Or.inr (Or.inr (Or.inl ⟨al,sl,ps,rfl,hvb,ho,hsl,h1⟩)))⟩,rfl,?_,?_⟩
  ·rw[Sp.AQ,if_pos rfl,List.nil_append,List.nodup_cons];exact⟨hbn,h3⟩
  ·intro k hk;rw[Sp.AQ,if_pos rfl,List.nil_append] at hk;rcases List.mem_cons.1 hk with rfl|hk
   ·exact hb
   ·have:=(h4 k hk).1;omega
 | some g =>
  have s1:=hs g hsl;have s3:g≠0:=by omega
  refine⟨Sp.nd b g (.slice al []),⟨b,g,_,rfl,rfl,Or.inr (Or.inr (Or.inr (Or.inl ⟨al,sl,ps,rfl,hvb,ho,by rw[if_neg s3];exact hsl,h1⟩)))⟩,rfl,?_,?_⟩
  ·rw[Sp.AQ,if_neg s3,List.nodup_cons,List.singleton_append,List.nodup_cons];refine⟨fun hm=>?_,fun hm=>(h4 g hm).2 hsl,h3⟩;rcases List.mem_cons.1 hm with e|hm
   ·omega
   ·exact hbn hm
  ·intro k hk;rw[Sp.AQ,if_neg s3,List.singleton_append] at hk;rcases List.mem_cons.1 hk with rfl|hk
   ·exact hb
   ·rcases List.mem_cons.1 hk with rfl|hk
    ·omega
    ·have:=(h4 k hk).1;omega
def TrM(f lo:Nat)(w:World)(D:List (Lit×DataW Value))(es:List (Lit×Sp.V)):Prop :=
 ∃al:List (Lit×Sp.A),Pt (Ae f w) D al/\(al.map fun p=>(p.1,Sp.str f p.2))=es/\(al.flatMap fun p=>Sp.fp f p.2).Nodup /\ ∀k∈al.flatMap fun p=>Sp.fp f p.2,lo<=k
theorem TrM.nil(f lo:Nat)(w:World):TrM f lo w [] []:=⟨[],trivial,rfl,List.nodup_nil,fun k hk=>by cases hk⟩
theorem Pt.lts{f:Nat}{w:World}{D:List (Lit×DataW Value)}{al:List (Lit×Sp.A)}(h:Pt (Ae f w) D al):∀k∈al.flatMap (fun p=>Sp.fp f p.2),k<w.heap.size:=by
 intro k hk;obtain⟨c,hc,hkc⟩:=List.mem_flatMap.1 hk;obtain⟨u,hu⟩:=h.right hc;exact hu.lt k hkc
theorem TrM.move{f lo:Nat}{w w':World}{D:List (Lit×DataW Value)}{es:List (Lit×Sp.V)}(h:TrM f lo w D es)(hk:∀k,lo<=k->k<w.heap.size->w'.heap[k]? = w.heap[k]?):TrM f lo w' D es:=by
 obtain⟨al,h1,h2,h3,h4⟩:=h;refine⟨al,Pt.mem (fun u p hp hu=>hu.move fun k hkc=>?_) h1,h2,h3,h4⟩;have hm:k∈al.flatMap (fun p=>Sp.fp f p.2):=List.mem_flatMap.2 ⟨p,hp,hkc⟩;exact hk k (h4 k hm) (h1.lts k hm)
theorem Tm{α β:Type}(g:α->List β){l m:List α}(h:List.Sublist l m):List.Sublist (l.flatMap g) (m.flatMap g):=by
 induction h with
 | slnil=>exact List.Sublist.refl _
 | cons a _ ih=>rw[List.flatMap_cons];exact ih.trans (List.sublist_append_right _ _)
 | cons_cons a _ ih=>rw[List.flatMap_cons,List.flatMap_cons];exact List.Sublist.append (List.Sublist.refl _) ih
theorem Nb(f:Nat)(x:Lit×Sp.A)(l:List (Lit×Sp.A)):(DataW.insert x l).map (fun p=>(p.1,Sp.str f p.2))=DataW.insert (x.1,Sp.str f x.2) (l.map fun p=>(p.1,Sp.str f p.2)):=by
 induction l with
 | nil=>rfl
 | cons y r ih =>
  simp only[DataW.insert,List.map_cons];split
  ·rfl
  ·rw[List.map_cons,ih]
theorem TrM.put{f lo:Nat}{w w5 w6:World}{D:List (Lit×DataW Value)}{es:List (Lit×Sp.V)}{k:Lit}{x:Value}{d:Sp.V}(h:TrM f lo w D es)(hv:Tr f w.heap.size w5 x d)(hlo:lo<=w.heap.size)
  (hk:∀j,lo<=j->j<w.heap.size->w6.heap[j]? = w.heap[j]?) (hkv:∀j,w.heap.size<=j->j<w5.heap.size->w6.heap[j]? = w5.heap[j]?) :
  ∃D' es',DataW.put (.map D) k (.held x) = .map D'/\DataW.put (.map es:Sp.V) k d = .map es'/\TrM f lo w6 D' es':=by
 obtain⟨al,h1,rfl,h3,h4⟩:=h;obtain⟨a,g1,rfl,g3,g4⟩:=hv;have hl:=h1.lts;have g6:Ae f w6 x a:=g1.move fun j hm=>hkv j (g4 j hm) (g1.lt j hm);have h6:Pt (Ae f w6) D al:=Pt.mem (fun u p hp hu=>hu.move fun j hj=>by
  have hm:j∈al.flatMap (fun p=>Sp.fp f p.2):=List.mem_flatMap.2 ⟨p,hp,hj⟩;exact hk j (h4 j hm) (hl j hm)) h1
 refine⟨_,_,rfl,rfl,DataW.insert (k,a) (al.filter fun p=>!p.1.sameKey k),Pt.insert k x a g6 (Pt.filter (fun c=>!c.sameKey k) h6),?_,?_,?_⟩
 ·rw[Nb,List.filter_map];rfl
 ·have hp:=(Go.WideShapes.insert_perm (k,a) (al.filter fun p=>!p.1.sameKey k)).flatMap_right (fun p=>Sp.fp f p.2);rw[hp.nodup_iff,List.flatMap_cons,List.nodup_append];have hsub:List.Sublist ((al.filter fun p=>!p.1.sameKey k).flatMap fun p=>Sp.fp f p.2) (al.flatMap fun p=>Sp.fp f p.2):=Tm _ (List.filter_sublist (l:=al));refine⟨g3,h3.sublist hsub,fun u hu z hz e=>?_⟩;have:=g4 u hu;have:=hl z (hsub.subset hz);omega
 ·intro j hj;obtain⟨p,hp,hjp⟩:=List.mem_flatMap.1 hj;rcases List.mem_cons.1 ((Go.WideShapes.insert_perm _ _).mem_iff.1 hp) with rfl|hp
  ·exact Nat.le_trans hlo (g4 j hjp)
  ·exact h4 j (List.mem_flatMap.2 ⟨p,(List.mem_filter.1 hp).1,hjp⟩)
theorem TrM.pt{f lo:Nat}{w:World}{D:List (Lit×DataW Value)}{es:List (Lit×Sp.V)}(h:TrM f lo w D es):Pt (Rep f (fun k=>lo<=k) w) D es:=by
 obtain⟨al,h1,rfl,_,h4⟩:=h;exact Pt.mapR (Pt.mem (fun u p hp hu=>hu.rep fun k hk=>h4 k (List.mem_flatMap.2 ⟨p,hp,hk⟩)) h1)
theorem TrM.obj{f lo lo' b m n:Nat}{w:World}{D:List (Lit×DataW Value)}{es:List (Lit×Sp.V)}(h:TrM f lo w D es)(hb:lo'<=b/\b<lo)(hm:lo'<=m/\m<lo)(hbm:b≠m)
  (hvb:VB w b 6 n0 [] (.slice none 0 0) (.map (some m))) (ho:w.ownsMap Tryz.prog 9 RV m n (.map D)):Tr (f+1) lo' w (.pointer (some ⟨b,0,none⟩)) (Sp.Av es):=by
 obtain⟨al,h1,rfl,h3,h4⟩:=h;refine⟨Sp.nd b m (.map al),⟨b,m,_,rfl,rfl,Or.inr (Or.inr (Or.inr (Or.inr ⟨al,n,D,rfl,hvb,ho,h1⟩)))⟩,rfl,?_,?_⟩
 ·rw[Sp.Bi,List.nodup_cons,List.nodup_cons];refine⟨fun hx=>?_,fun hx=>by have:=h4 m hx;omega,h3⟩;rcases List.mem_cons.1 hx with e|hx
  ·exact hbm e
  ·have:=h4 b hx;omega
 ·intro k hk;rw[Sp.Bi] at hk;rcases List.mem_cons.1 hk with rfl|hk
  ·exact hb.1
  ·rcases List.mem_cons.1 hk with rfl|hk
   ·exact hm.1
   ·have:=h4 k hk;omega
end

section
open Go.RowKit
namespace Sp
def AL(a:A):List A:=match a with
 | .agg [.lit (.int _ _),.lit (.int _ _),x]=>(match x with
  | .slice al _=>al
  | .map es=>es.map Prod.snd
  | _=>[])
 | _=>[]
def kid(a:A)(i:Nat)(c:A):A:=match a with
 | .agg [.lit (.int k b),.lit (.int l g),x]=>(match x with
  | .slice al _=>.agg [.lit (.int k b),.lit (.int l g),.slice (al.set i c) []]
  | .map es=>.agg [.lit (.int k b),.lit (.int l g),.map (es.modify i fun p=>(p.1,c))]
  | y=>.agg [.lit (.int k b),.lit (.int l g),y])
 | y=>y
theorem B2(b g:Nat)(al:List A):AL (nd b g (.slice al []))=al:=rfl
theorem BI(b g:Nat)(es:List (Lit×A)):AL (nd b g (.map es))=es.map Prod.snd:=rfl
theorem FR(b g k:Nat):AL (nd b g (BV k))=[]:=rfl
theorem GJ(b g:Nat)(n:Nm):AL (nd b g (Bj n))=[]:=rfl
theorem GI(b g:Nat)(s:By):AL (nd b g (Az s))=[]:=rfl
theorem KB(b g i:Nat)(al:List A)(c:A):kid (nd b g (.slice al [])) i c=nd b g (.slice (al.set i c) []):=rfl
theorem KA(b g i:Nat)(es:List (Lit×A))(c:A):kid (nd b g (.map es)) i c=nd b g (.map (es.modify i fun p=>(p.1,c))):=rfl
end Sp
theorem CW{α β:Type}(q:α->List β):∀ (l:List α) (i:Nat) (a:α),l[i]? = some a -> ∃l1 l2,l=l1++a::l2/\l1.length=i
 | [],i,a,h=>by simp at h
 | x::r,0,a,h=>⟨[],r,by simpa using h,rfl⟩
 | x::r,i+1,a,h=>by
  obtain⟨l1,l2,e,e2⟩:=CW q r i a (by simpa using h);exact⟨x::l1,l2,by rw[e];rfl,by simp[e2]⟩
theorem Al.app{α β:Type}{P:α->β->Prop}:∀ {l:List α} {m1 m2:List β},Al P l (m1++m2) -> ∃l1 l2,l=l1++l2/\Al P l1 m1/\Al P l2 m2
 | l,[],m2,h=>⟨[],l,rfl,trivial,h⟩
 | [],_::_,_,h=>h.elim
 | a::r,b::m1,m2,⟨h1,h2⟩=>by
  obtain⟨l1,l2,e,h3,h4⟩:=Al.app h2;exact⟨a::l1,l2,by rw[e];rfl,⟨h1,h3⟩,h4⟩
theorem Al.append{α β:Type}{P:α->β->Prop}:∀ {l1 l2:List α} {m1 m2:List β},Al P l1 m1->Al P l2 m2->Al P (l1++l2) (m1++m2)
 | [],_,[],_,_,h=>h
 | _::_,_,_::_,_,⟨a,b⟩,h=>⟨a,Al.append b h⟩
theorem Pt.app{P:Value->Sp.V->Prop}:∀ {l:List (Lit×DataW Value)} {m1 m2:List (Lit×Sp.V)},Pt P l (m1++m2) -> ∃l1 l2,l=l1++l2/\Pt P l1 m1/\Pt P l2 m2
 | l,[],m2,h=>⟨[],l,rfl,trivial,h⟩
 | [],_::_,_,h=>h.elim
 | a::r,b::m1,m2,⟨h1,h2⟩=>by
  obtain⟨l1,l2,e,h3,h4⟩:=Pt.app h2;exact⟨a::l1,l2,by rw[e];rfl,⟨h1,h3⟩,h4⟩
theorem Pt.append{P:Value->Sp.V->Prop}:∀ {l1 l2:List (Lit×DataW Value)} {m1 m2:List (Lit×Sp.V)},Pt P l1 m1->Pt P l2 m2->Pt P (l1++l2) (m1++m2)
 | [],_,[],_,_,h=>h
 | _::_,_,_::_,_,⟨a,b⟩,h=>⟨a,Pt.append b h⟩
theorem Dh{α:Type}(q:α->α)(a:α)(l2:List α):∀l1:List α,(l1++a::l2).modify l1.length q=l1++q a::l2
 | []=>rfl
 | x::r=>by simp only[List.cons_append,List.length_cons,List.modify_succ_cons,Dh q a l2 r]
theorem Ae.kid{f i:Nat}{w w':World}{v:Value}{a c c':Sp.A}(h:Ae (f+1) w v a)(hi:(Sp.AL a)[i]? = some c)(hn:(Sp.fp (f+1) a).Nodup)
  (hk:∀k∈Sp.fp (f+1) a,k ∉ Sp.fp f c->w'.heap[k]? = w.heap[k]?) (hc:∀u,Ae f w u c->Ae f w' u c'):Ae (f+1) w' v (Sp.kid a i c'):=by
 obtain⟨b,g,x,rfl,hv,h⟩:=h;rcases h with⟨k,h1,h2,rfl,h⟩|⟨n,h2,rfl,h,hbd⟩|⟨s,h2,rfl,h⟩|⟨al,sl,ps,rfl,h,ho,hs,ha⟩|⟨es,n,D,rfl,h,ho,hp⟩
 ·rw[Sp.FR] at hi;simp at hi
 ·rw[Sp.GJ] at hi;simp at hi
 ·rw[Sp.GI] at hi;simp at hi
 ·rw[Sp.B2] at hi;obtain⟨l1,l2,rfl,hl⟩:=CW (Sp.fp f) al i c hi;rw[Sp.AQ,List.flatMap_append,List.flatMap_cons] at hn hk;obtain⟨q1,q2,rfl,ha1,ha2⟩:=ha.app;cases q2 with
  | nil=>exact ha2.elim
  | cons u q2 =>
   obtain⟨hu,ha2⟩:=ha2;rw[Sp.KB,List.set_append_right _ _ (by omega),show i-l1.length=0 by omega,List.set_cons_zero];obtain⟨n1,n2⟩:=List.nodup_cons.1 hn;obtain⟨n3,n4,n5⟩:=List.nodup_append.1 n2;obtain⟨n6,n7,n8⟩:=List.nodup_append.1 n4;obtain⟨n9,n10,n11⟩:=List.nodup_append.1 n7;refine⟨b,g,_,rfl,hv,Or.inr (Or.inr (Or.inr (Or.inl ⟨_,sl,q1++u::q2,rfl,h.kept (hk b (by simp) fun hb=>n1 ?_),AZ ho fun g' hg'=>hk g' ?_ fun hb=>?_,hs,Al.append (Al.mem (fun u' d hd hu'=>Ae.move (fun k hkc=>hk k ?_ fun hb=>?_) hu') ha1) ⟨hc u hu,Al.mem (fun u' d hd hu'=>Ae.move (fun k hkc=>hk k ?_ fun hb=>?_) hu') ha2⟩⟩)))⟩
   ·exact List.mem_append_right _ (List.mem_append_right _ (List.mem_append_left _ hb))
   ·obtain⟨rfl,h0⟩:=CZ hs hg';simp[h0]
   ·obtain⟨rfl,h0⟩:=CZ hs hg';exact n5 g' (by simp[h0]) g' (List.mem_append_right _ (List.mem_append_left _ hb)) rfl
   ·exact List.mem_cons_of_mem _ (List.mem_append_right _ (List.mem_append_left _ (List.mem_flatMap.2 ⟨d,hd,hkc⟩)))
   ·exact n8 k (List.mem_flatMap.2 ⟨d,hd,hkc⟩) k (List.mem_append_left _ hb) rfl
   ·exact List.mem_cons_of_mem _ (List.mem_append_right _ (List.mem_append_right _ (List.mem_append_right _ (List.mem_flatMap.2 ⟨d,hd,hkc⟩))))
   ·exact n11 k hb k (List.mem_flatMap.2 ⟨d,hd,hkc⟩) rfl
 ·rw[Sp.BI] at hi;rw[List.getElem?_map] at hi;obtain⟨⟨key,c2⟩,hi2,rfl⟩:=Option.map_eq_some_iff.1 hi;obtain⟨l1,l2,rfl,hl⟩:=CW (fun p=>Sp.fp f p.2) es i _ hi2;rw[Sp.Bi,List.flatMap_append,List.flatMap_cons] at hn hk;obtain⟨q1,q2,rfl,ha1,ha2⟩:=hp.app;cases q2 with
  | nil=>exact ha2.elim
  | cons u q2 =>
   obtain⟨⟨ku,xu,eu,hu⟩,ha2⟩:=ha2;have em:(l1++(key,c2)::l2).modify i (fun p=>(p.1,c'))=l1++(key,c')::l2:=by
    rw[<- hl];exact Dh _ _ _ _
   rw[Sp.KA,em];obtain⟨n1,n2⟩:=List.nodup_cons.1 hn;obtain⟨n3,n4⟩:=List.nodup_cons.1 n2;obtain⟨n6,n7,n8⟩:=List.nodup_append.1 n4;obtain⟨n9,n10,n11⟩:=List.nodup_append.1 n7;refine⟨b,g,_,rfl,hv,Or.inr (Or.inr (Or.inr (Or.inr ⟨_,n,q1++u::q2,rfl,h.kept (hk b (by simp) fun hb=>n1 ?_),AJ ho (hk g (by simp) fun hb=>n3 ?_),Pt.append (Pt.mem (fun u' d hd hu'=>Ae.move (fun k hkc=>hk k ?_ fun hb=>?_) hu') ha1) ⟨⟨ku,xu,eu,hc xu hu⟩,Pt.mem (fun u' d hd hu'=>Ae.move (fun k hkc=>hk k ?_ fun hb=>?_) hu') ha2⟩⟩)))⟩
   ·exact List.mem_cons_of_mem _ (List.mem_append_right _ (List.mem_append_left _ hb))
   ·exact List.mem_append_right _ (List.mem_append_left _ hb)
   ·exact List.mem_cons_of_mem _ (List.mem_cons_of_mem _ (List.mem_append_left _ (List.mem_flatMap.2 ⟨d,hd,hkc⟩)))
   ·exact n8 k (List.mem_flatMap.2 ⟨d,hd,hkc⟩) k (List.mem_append_left _ hb) rfl
   ·exact List.mem_cons_of_mem _ (List.mem_cons_of_mem _ (List.mem_append_right _ (List.mem_append_right _ (List.mem_flatMap.2 ⟨d,hd,hkc⟩))))
   ·exact n11 k hb k (List.mem_flatMap.2 ⟨d,hd,hkc⟩) rfl
end

section
open Go.RowKit
namespace Sp
def sub:List Nat->A->Option A
 | [],a=>some a
 | i::r,a=>match (AL a)[i]? with
  | some c=>sub r c
  | none=>none
def put:List Nat->A->A->A
 | [],n,_=>n
 | i::r,n,a=>match (AL a)[i]? with
  | some c=>kid a i (put r n c)
  | none=>a
theorem Cm{i:Nat}{r:List Nat}{a n:A}(h:sub (i::r) a=some n):∃c,(AL a)[i]? = some c/\sub r c=some n:=by
 unfold sub at h;split at h
 ·rename_i c hc;exact⟨c,hc,h⟩
 ·cases h
theorem BO{i:Nat}{r:List Nat}{a c:A}(n:A)(h:(AL a)[i]? = some c):put (i::r) n a=kid a i (put r n c):=by
 rw[put,h]
theorem FS{a c:A}{i:Nat}(h:(AL a)[i]? = some c):(∃k b l g al x,a = .agg [.lit (.int k b),.lit (.int l g),.slice al x]/\al[i]? = some c)\/(∃k b l g es key,a = .agg [.lit (.int k b),.lit (.int l g),.map es]/\es[i]? = some (key,c)):=by
 unfold AL at h;split at h
 ·rename_i k b l g x;split at h
  ·rename_i al y;exact Or.inl ⟨_,_,_,_,al,y,rfl,h⟩
  ·rename_i es;rw[List.getElem?_map] at h;obtain⟨⟨key,c2⟩,h2,rfl⟩:=Option.map_eq_some_iff.1 h;exact Or.inr ⟨_,_,_,_,es,key,rfl,h2⟩
  ·simp at h
 ·simp at h
theorem R5{f i:Nat}{a c:A}(h:(AL a)[i]? = some c):∃rest,(fp (f+1) a).Perm (rest++fp f c) /\ ∀c',(fp (f+1) (kid a i c')).Perm (rest++fp f c'):=by
 rcases FS h with⟨k,b,l,g,al,x,rfl,h7⟩|⟨k,b,l,g,es,key,rfl,h7⟩
 ·obtain⟨l1,l2,rfl,hl⟩:=CW (fp f) al i c h7;have e (y:List A) (z:List A):fp (f+1) (.agg [.lit (.int k b),.lit (.int l g),.slice y z])=b.toNat::((if g=0 then [] else [g.toNat])++y.flatMap (fp f)):=rfl;have p (c':A):(b.toNat::((if g=0 then [] else [g.toNat])++(l1++c'::l2).flatMap (fp f))).Perm ((b.toNat::((if g=0 then [] else [g.toNat])++(l1.flatMap (fp f)++l2.flatMap (fp f))))++fp f c'):=by
   rw[List.flatMap_append,List.flatMap_cons,List.cons_append,List.append_assoc,List.append_assoc];exact ((((List.perm_append_comm).append_left _)).append_left _).cons _
  refine⟨_,by rw[e];exact p c,fun c'=>?_⟩;have e2:kid (.agg [.lit (.int k b),.lit (.int l g),.slice (l1++c::l2) x]) i c' = .agg [.lit (.int k b),.lit (.int l g),.slice (l1++c'::l2) []]:=by
   show DataW.agg [.lit (.int k b),.lit (.int l g),.slice ((l1++c::l2).set i c') []]=_;rw[List.set_append_right _ _ (by omega),show i-l1.length=0 by omega,List.set_cons_zero]
  rw[e2,e];exact p c'
 ·obtain⟨l1,l2,rfl,hl⟩:=CW (fun p=>fp f p.2) es i (key,c) h7;have e (y:List (Lit×A)):fp (f+1) (.agg [.lit (.int k b),.lit (.int l g),.map y])=b.toNat::g.toNat::y.flatMap (fun p=>fp f p.2):=rfl;have p (c':A):(b.toNat::g.toNat::(l1++(key,c')::l2).flatMap (fun p=>fp f p.2)).Perm ((b.toNat::g.toNat::(l1.flatMap (fun p=>fp f p.2)++l2.flatMap (fun p=>fp f p.2)))++fp f c'):=by
   rw[List.flatMap_append,List.flatMap_cons,List.cons_append,List.cons_append,List.append_assoc];exact (((List.perm_append_comm).append_left _).cons _).cons _
  refine⟨_,by rw[e];exact p c,fun c'=>?_⟩;have e2:kid (.agg [.lit (.int k b),.lit (.int l g),.map (l1++(key,c)::l2)]) i c' = .agg [.lit (.int k b),.lit (.int l g),.map (l1++(key,c')::l2)]:=by
   show DataW.agg [.lit (.int k b),.lit (.int l g),.map ((l1++(key,c)::l2).modify i fun p=>(p.1,c'))]=_;rw[<- hl,Dh]
  rw[e2,e];exact p c'
theorem Gh{f:Nat}:∀ {p:List Nat} {a n:A},sub p a=some n -> ∃rest,(fp (f+p.length) a).Perm (rest++fp f n) /\ ∀n',(fp (f+p.length) (put p n' a)).Perm (rest++fp f n')
 | [],a,n,h=>by
  injection h with h;subst h;exact⟨[],List.Perm.refl _,fun n'=>List.Perm.refl _⟩
 | i::r,a,n,h=>by
  obtain⟨c,hc,h2⟩:=Cm h;obtain⟨rest,h3,h4⟩:=Gh (f:=f) h2;obtain⟨rest2,h5,h6⟩:=R5 (f:=f+r.length) hc;refine⟨rest2++rest,?_,fun n'=>?_⟩
  ·rw[List.append_assoc];exact h5.trans (h3.append_left _)
  ·rw[List.append_assoc,BO n' hc];exact (h6 _).trans ((h4 n').append_left _)
theorem Dd{f:Nat}{p:List Nat}{a n:A}(h:sub p a=some n):∀k∈fp f n,k∈fp (f+p.length) a:=by
 obtain⟨rest,h1,_⟩:=Gh (f:=f) h;exact fun k hk=>h1.mem_iff.2 (List.mem_append_right _ hk)
theorem BB{f:Nat}{p:List Nat}{a n:A}(h:sub p a=some n)(hn:(fp (f+p.length) a).Nodup):(fp f n).Nodup:=by
 obtain⟨rest,h1,_⟩:=Gh (f:=f) h;exact (List.nodup_append.1 (h1.nodup_iff.1 hn)).2.1
theorem Rf{f:Nat}{p:List Nat}{a n n':A}(h:sub p a=some n)(hn:(fp (f+p.length) a).Nodup)(hn':(fp f n').Nodup)(hd:∀k∈fp f n',k∈fp (f+p.length) a->k∈fp f n):(fp (f+p.length) (put p n' a)).Nodup:=by
 obtain⟨rest,h1,h2⟩:=Gh (f:=f) h;have h3:=List.nodup_append.1 (h1.nodup_iff.1 hn);refine (h2 n').nodup_iff.2 (List.nodup_append.2 ⟨h3.1,hn',fun x hx y hy e=>?_⟩);subst e;exact h3.2.2 x hx x (hd x hy (h1.mem_iff.2 (List.mem_append_left _ hx))) rfl
theorem Xh{f:Nat}{p:List Nat}{a n n':A}(h:sub p a=some n):∀k∈fp (f+p.length) (put p n' a),k∈fp (f+p.length) a\/k∈fp f n':=by
 obtain⟨rest,h1,h2⟩:=Gh (f:=f) h;intro k hk;rcases List.mem_append.1 ((h2 n').mem_iff.1 hk) with hk|hk
 ·exact Or.inl (h1.mem_iff.2 (List.mem_append_left _ hk))
 ·exact Or.inr hk
end Sp
theorem Ae.at{f:Nat}{w:World}:∀ {p:List Nat} {v:Value} {a n:Sp.A},Ae (f+p.length) w v a->Sp.sub p a=some n -> ∃u,Ae f w u n
 | [],v,a,n,h,hs=>by
  injection hs with hs;subst hs;exact⟨v,h⟩
 | i::r,v,a,n,h,hs=>by
  obtain⟨c,hc,h2⟩:=Sp.Cm hs;obtain⟨b,g,x,rfl,hv,h⟩:=(show Ae ((f+r.length)+1) w v a from h)
  rcases h with⟨k,_,_,rfl,h⟩|⟨n,_,rfl,h,hbd⟩|⟨s,_,rfl,h⟩|⟨al,sl,ps,rfl,h,ho,hs,ha⟩|⟨es,n,D,rfl,h,ho,hp⟩
  ·rw[Sp.FR] at hc;simp at hc
  ·rw[Sp.GJ] at hc;simp at hc
  ·rw[Sp.GI] at hc;simp at hc
  ·rw[Sp.B2] at hc;obtain⟨u,hu⟩:=ha.right (List.mem_of_getElem? hc);exact Ae.at hu h2
  ·rw[Sp.BI,List.getElem?_map] at hc;obtain⟨q,hq,rfl⟩:=Option.map_eq_some_iff.1 hc;obtain⟨u,hu⟩:=hp.right (List.mem_of_getElem? hq);exact Ae.at hu h2
theorem Ae.put{f:Nat}{w w':World}{n':Sp.A}:∀ {p:List Nat} {v:Value} {a n:Sp.A},Ae (f+p.length) w v a->Sp.sub p a=some n->(Sp.fp (f+p.length) a).Nodup ->
  (∀k∈Sp.fp (f+p.length) a,k ∉ Sp.fp f n->w'.heap[k]? = w.heap[k]?)->(∀u,Ae f w u n->Ae f w' u n')->Ae (f+p.length) w' v (Sp.put p n' a)
 | [],v,a,n,h,hs,_,_,hc=>by
  injection hs with hs;subst hs;exact hc v h
 | i::r,v,a,n,h,hs,hn,hk,hc=>by
  obtain⟨c,hci,h2⟩:=Sp.Cm hs;rw[Sp.BO n' hci];obtain⟨rest,h5,h6⟩:=Sp.R5 (f:=f+r.length) hci;have hcn:=(List.nodup_append.1 (h5.nodup_iff.1 hn)).2.1;refine Ae.kid (f:=f+r.length) h hci hn (fun k hk1 hk2=>hk k hk1 fun hk3=>hk2 (Sp.Dd h2 k hk3)) fun u hu=>?_;exact Ae.put hu h2 hcn (fun k hk1 hk2=>hk k (h5.mem_iff.2 (List.mem_append_right _ hk1)) hk2) hc
end

section
set_option maxHeartbeats 1000000
set_option maxRecDepth 100000
open Go.RowKit
theorem Pl:(Tryz.prog.info? 5).map (fun i=>(i.zero,i.size,i.bytes))=some (some (.int .u8 0),1,1):=by kernel_rfl
theorem SS:(Tryz.prog.info? 119).map (fun i=>decide (0<i.size))=some true:=by kernel_rfl
abbrev IsB(B b:Nat)(bs:List Value)(w:World):Prop:=Lib.IsBuilder 119 5 B b bs w
abbrev BAt(B b:Nat)(bs:List Value)(w:World):Prop:=Lib.BuilderAt 119 5 B b (.pointer (some ⟨b,0,none⟩)) bs w
def OKz(b:Nat)(w w':World):Prop:=∀k o,w.heap[k]? = some o->k≠b->(∀c,o ≠ .cells c 5 (0,0))->w'.heap[k]? = some o
theorem OKz.refl(b:Nat)(w:World):OKz b w w:=fun _ _ h _ _=>h
theorem OKz.trans{b:Nat}{w1 w2 w3:World}(h:OKz b w1 w2)(g:OKz b w2 w3):OKz b w1 w3:=fun k o h1 h2 h3=>g k o (h k o h1 h2 h3) h2 h3
theorem OKz.setCell(b:Nat)(w:World)(j:Nat)(v:Value):OKz b w (w.setCell ⟨b,j,none⟩ v):=fun _ _ h1 h2 _=>(Below.heap_setCell _ _ _ _ h2).trans h1
theorem OKz.below{b:Nat}{w w':World}(h:Below w.heap.size w w'):OKz b w w':=fun k _ h1 _ _=>(h.block k (Array.getElem?_eq_some_iff.1 h1).1).trans h1
theorem OKz.grown{B b n:Nat}{v:Value}{xs:List Value}{w w0 w2:World}(hown:w.ownsRow B 5 1 v n xs)(h0:∀k,k<w.heap.size->w0.heap[k]? = w.heap[k]?)(hs:w.heap.size<=w0.heap.size)(hg:w0.grownBy w2 v.ownBlock):OKz b w w2:=by
 intro k o h1 _ h3;have hk:=(Array.getElem?_eq_some_iff.1 h1).1;refine (hg.block k (by omega) ?_).trans ((h0 k hk).trans h1);intro hv;rcases hown.2 with⟨e,_⟩|⟨g,cap,cur,e,_,hb,_⟩
 ·rw[e] at hv;cases hv
 ·rw[e] at hv;injection hv with hv;subst hv;rw[hb] at h1;injection h1 with h1;exact h3 cur h1.symm
theorem KI(b:Nat)(w:World)(h0:w.cell? ⟨b,0,none⟩=some (.pointer (some ⟨b,0,none⟩))) :
  Calls Tryz.prog 142 #[.pointer (some ⟨b,0,none⟩)] w fun e w'=>e = .returned (.tuple #[])/\w'=w:=by
 obtain⟨j,hj,_⟩:=Option.map_eq_some_iff.1 SS
 go_enter func142,ntmps142
 go_wp2
 rw[Lib.run_neq_ptr_same w _ underlying116 hj]
 go_wp2
 go_end0
 exact⟨rfl,rfl⟩
theorem WQ:∃j,Tryz.prog.info? 119=some j/\0<j.size:=by
 obtain⟨j,hj,h⟩:=Option.map_eq_some_iff.1 SS;exact⟨j,hj,by simpa using h⟩
theorem Kj(b:Nat)(w:World)(h0:w.cell? ⟨b,0,none⟩=some (.pointer none))(hsh:w.shape? b=some (119,2))(hfz:w.frozen? ⟨b,0,none⟩=false) :
  Calls Tryz.prog 142 #[.pointer (some ⟨b,0,none⟩)] w fun e w'=>e = .returned (.tuple #[])/\w'=w.setCell ⟨b,0,none⟩ (.pointer (some ⟨b,0,none⟩)):=by
 obtain⟨j,hj,hjs⟩:=WQ
 go_enter func142,ntmps142
 go_wp2
 rw[Lib.run_to_unsafe w ⟨b,0,none⟩ underlying116 underlying250 hj (by omega) hsh (Nat.zero_lt_succ 1)];simp only[Result.andThen];rw[Oper.upon_value]
 go_wp2
 rw[run_callFunc_extern func189 (by kernel_rfl) (by kernel_rfl) (by kernel_rfl) (e:=Extern.AbiNoEscape.same) (by kernel_rfl)];rw[Lib.run_noEscape];simp only[Result.andThen];rw[Oper.upon_value]
 go_wp2
 rw[Lib.run_from_unsafe w ⟨b,0,none⟩ underlying250 underlying116 hj hsh (by kernel_rfl)];simp only[Result.andThen];rw[Oper.upon_value]
 go_wp2
 go_end0
 exact⟨rfl,rfl⟩
theorem E9(B b:Nat)(bs:List Value)(w:World)(h:IsB B b bs w) :
  Calls Tryz.prog 142 #[.pointer (some ⟨b,0,none⟩)] w fun e w'=>e = .returned (.tuple #[])/\BAt B b bs w'/\Below B w w'/\OKz b w w':=by
 rcases h with h|h
 ·refine (Kj b w h.cell0 h.shape h.frozen0).mono ?_;rintro e w' ⟨rfl,rfl⟩;exact⟨rfl,h.used _,(Below.refl B w).setCell (p:=⟨b,0,none⟩) h.1 _,OKz.setCell _ _ _ _⟩
 ·refine (KI b w h.cell0).mono ?_;rintro e w' ⟨rfl,rfl⟩;exact⟨rfl,h,Below.refl B _,OKz.refl _ _⟩
end

section
set_option maxHeartbeats 2000000
set_option maxRecDepth 100000
open Go.RowKit
theorem L6(B b:Nat)(bs:List Value)(c:Int)(w:World)(h:IsB B b bs w)(hlen:bs.length+1<=140737488355328)(hBw:B<=w.heap.size) :
  Calls Tryz.prog 139 #[.pointer (some ⟨b,0,none⟩),.int .u8 c] w fun e w'=>e = .returned .nilIface/\BAt B b (bs++[.int .u8 c]) w'/\Below B w w'/\OKz b w w':=by
 obtain⟨i0,hi,hz0,hz1,hz2⟩:=info_parts Pl
 go_enter func139,ntmps139
 go_wp2_with (fail);refine (E9 B b bs _ h).mono ?_
 rintro e w1 ⟨rfl,h1,hb1,hz1'⟩;obtain⟨hB,v,hbk,hown,hne⟩:=h1;have c0:w1.cell? ⟨b,0,none⟩=some (.pointer (some ⟨b,0,none⟩)):=by rw[Lib.cell_of_heap hbk];rfl
 have c1:w1.cell? ⟨b,1,none⟩=some v:=by rw[Lib.cell_of_heap hbk];rfl
 go_wp2_with (at_builtin;refine wpList_append_own _ rfl _ _ 117 rfl B 5 i0 (.int .u8 0) 1 1 underlying117 hi hz0 hz1 hz2 rfl (by decide) _ _ _ rfl (hown.alloc _) ⟨w1.heap.size,0,none⟩ 1 1 [.int .u8 c] rfl rfl ?c1 ?c2 ?c3 ?c4 ?c5 ?_)
 case c1 =>
  intro j u hj
  match j,hj with
  | 0,hj=>simp at hj;subst hj;simp[Addr.add]
 case c2=>intro u hu;simp at hu;subst hu;rfl
 case c3=>unfold maxLen;omega
 case c4=>omega
 case c5=>have:=hb1.size;simp;omega
 intro v' w2 hown' hgrow _;have hlt:b<w1.heap.size:=(Array.getElem?_eq_some_iff.1 hbk).1;have hb2:w2.heap[b]? = some (.cells #[.pointer (some ⟨b,0,none⟩),v] 119 (0,0)):=by
  rw[hgrow.block b (by simp;omega) (fun e=>hne e.symm),Lib.alloc_old w1 _ b hlt];exact hbk
 have d0:w2.cell? ⟨b,0,none⟩=some (.pointer (some ⟨b,0,none⟩)):=by rw[Lib.cell_of_heap hb2];rfl
 have d1:w2.cell? ⟨b,1,none⟩=some v:=by rw[Lib.cell_of_heap hb2];rfl
 have f1:w2.frozen? ⟨b,1,none⟩=false:=Lib.frozen_of_heap hb2 1;obtain⟨g,cap,rfl⟩:∃g cap,v' = .slice (some ⟨g,0,none⟩) (bs.length+1) cap:=by
  rcases hown'.2 with⟨_,h0⟩|⟨g,cap,cur,hv,_⟩
  ·omega
  ·exact⟨g,cap,hv⟩
 go_wp2_with (fail)
 go_ret;refine⟨rfl,?_,?_,(hz1'.trans (OKz.grown hown (fun k hk=>Lib.alloc_old w1 _ k hk) (by simp) hgrow)).trans (OKz.setCell _ _ _ _)⟩
 ·exact Lib.BuilderAt.put hB hb2 (bs':=bs++[.int .u8 c]) (by simpa using hown') (by decide)
 ·exact ((hb1.alloc (by have:=hb1.size;omega) _).grown hgrow (by have:=hb1.size;simp;omega) (fun k hk=>(hown.lt k hk).1)).setCell (p:=⟨b,1,none⟩) hB _
theorem Km(B b:Nat)(bs:List Value)(s:ByteArray)(w:World)(h:IsB B b bs w)(hlen:bs.length+s.size<=140737488355328)(hBw:B<=w.heap.size) :
  Calls Tryz.prog 107 #[.pointer (some ⟨b,0,none⟩),.string s] w fun e w'=>e = .returned (.tuple #[.int .i64 s.size,.nilIface])/\BAt B b (bs++Lib.strCells s) w'/\Below B w w'/\OKz b w w':=by
 obtain⟨i0,hi,hz0,hz1,hz2⟩:=info_parts Pl
 go_enter func107,ntmps107
 go_wp2_with (fail);refine (E9 B b bs _ h).mono ?_
 rintro e w1 ⟨rfl,h1,hb1,hz1'⟩;obtain⟨hB,v,hbk,hown,hne⟩:=h1;have c0:w1.cell? ⟨b,0,none⟩=some (.pointer (some ⟨b,0,none⟩)):=by rw[Lib.cell_of_heap hbk];rfl
 have c1:w1.cell? ⟨b,1,none⟩=some v:=by rw[Lib.cell_of_heap hbk];rfl
 go_wp2_with (at_builtin;refine Lib.wpList_append_own_string _ rfl _ _ 117 9 rfl B 5 i0 underlying117 underlying9 hi hz0 hz1 hz2 _ _ _ rfl hown s rfl ?c3 ?c4 ?c5 ?_)
 case c3=>unfold maxLen;omega
 case c4=>omega
 case c5=>have:=hb1.size;omega
 intro v' w2 hown' hgrow _;have hlt:b<w1.heap.size:=(Array.getElem?_eq_some_iff.1 hbk).1;have hb2:w2.heap[b]? = some (.cells #[.pointer (some ⟨b,0,none⟩),v] 119 (0,0)):=by
  rw[hgrow.block b hlt (fun e=>hne e.symm)];exact hbk
 have d0:w2.cell? ⟨b,0,none⟩=some (.pointer (some ⟨b,0,none⟩)):=by rw[Lib.cell_of_heap hb2];rfl
 have d1:w2.cell? ⟨b,1,none⟩=some v:=by rw[Lib.cell_of_heap hb2];rfl
 have f1:w2.frozen? ⟨b,1,none⟩=false:=Lib.frozen_of_heap hb2 1;obtain⟨ao,n',cap,rfl⟩:∃ao n' cap,v' = .slice ao n' cap:=by
  rcases hown'.2 with⟨hv,_⟩|⟨g,cap,cur,hv,_⟩
  ·exact⟨_,_,_,hv⟩
  ·exact⟨_,_,_,hv⟩
 go_wp2_with (fail)
 go_ret2
 refine⟨rfl,?_,?_,(hz1'.trans (OKz.grown hown (fun k _=>rfl) (Nat.le_refl _) hgrow)).trans (OKz.setCell _ _ _ _)⟩
 ·exact Lib.BuilderAt.put hB hb2 (bs':=bs++Lib.strCells s) (by simpa[Lib.strCells_length] using hown') (by decide)
 ·exact (hb1.grown hgrow (by have:=hb1.size;omega) (fun k hk=>(hown.lt k hk).1)).setCell (p:=⟨b,1,none⟩) hB _
theorem L5(B b:Nat)(bs:List Value)(r:Int)(hr0:-2147483648<=r)(hr1:r<=2147483647)(w:World)(h:IsB B b bs w)(hlen:bs.length+4<=140737488355328)(hBw:B<=w.heap.size) :
  Calls Tryz.prog 221 #[.pointer (some ⟨b,0,none⟩),.int .i32 r] w fun e w'=>(∃n,e = .returned (.tuple #[.int .i64 n,.nilIface]))/\BAt B b (bs++Lib.runeCells r) w'/\Below B w w':=by
 go_enter func221,ntmps221
 go_wp2_with (fail);refine (E9 B b bs _ h).mono ?_
 rintro e w1 ⟨rfl,h1,hb1,hz1'⟩;obtain⟨hB,v,hbk,hown,hne⟩:=h1;obtain⟨ao,cap,rfl⟩:∃ao cap,v = .slice ao bs.length cap:=by
  rcases hown.2 with⟨hv,h0⟩|⟨g,cap,cur,hv,_⟩
  ·exact⟨none,0,by rw[hv,h0]⟩
  ·exact⟨_,_,hv⟩
 have c0:w1.cell? ⟨b,0,none⟩=some (.pointer (some ⟨b,0,none⟩)):=by rw[Lib.cell_of_heap hbk];rfl
 have c1:w1.cell? ⟨b,1,none⟩=some (.slice ao bs.length cap):=by rw[Lib.cell_of_heap hbk];rfl
 go_wp2_with (fail);refine (Tryz.utf8_AppendRune_plain B _ bs.length bs r hr0 hr1 _ hown hlen (by have:=hb1.size;omega)).mono ?_
 rintro e w2 ⟨v',rfl,hown',o,hgrow⟩;have hlt:b<w1.heap.size:=(Array.getElem?_eq_some_iff.1 hbk).1;have hb2:w2.heap[b]? = some (.cells #[.pointer (some ⟨b,0,none⟩),.slice ao bs.length cap] 119 (0,0)):=by
  rw[hgrow.block b (by simp;omega) (fun e=>hne e.symm),Lib.alloc_old w1 _ b hlt];exact hbk
 have d0:w2.cell? ⟨b,0,none⟩=some (.pointer (some ⟨b,0,none⟩)):=by rw[Lib.cell_of_heap hb2];rfl
 have d1:w2.cell? ⟨b,1,none⟩=some (.slice ao bs.length cap):=by rw[Lib.cell_of_heap hb2];rfl
 have f1:w2.frozen? ⟨b,1,none⟩=false:=Lib.frozen_of_heap hb2 1;have hex:∃g cap',v' = .slice g (bs.length+(Lib.runeCells r).length) cap':=by
  rcases hown'.2 with⟨hv,h0⟩|⟨g,cap',cur,hv,_⟩
  ·exact⟨none,0,by rw[hv,h0]⟩
  ·exact⟨_,cap',hv⟩
 obtain⟨g,cap',rfl⟩:=hex
 go_wp2_with (fail)
 go_ret2
 refine⟨⟨_,rfl⟩,?_,?_⟩
 ·exact Lib.BuilderAt.put hB hb2 (bs':=bs++Lib.runeCells r) (by simpa using hown') (by decide)
 ·exact ((hb1.alloc (by have:=hb1.size;omega) _).grown hgrow (by have:=hb1.size;simp;omega) (fun k hk=>(hown.lt k hk).1)).setCell (p:=⟨b,1,none⟩) hB _
end
end Go.Proofs.YtdpomdelmdofmaaGreatDoor
