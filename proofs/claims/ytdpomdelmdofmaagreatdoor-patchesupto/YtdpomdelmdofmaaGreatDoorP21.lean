import Derived.Test.YtdpomdelmdofmaaGreatDoorP20
import Derived.Test.YtdpomdelmdofmaaGreatDoorP19
import Derived.Test.YtdpomdelmdofmaaGreatDoorP16
open Go renaming World->AI,Value->Bs,results->CH,Calls->CL,maxLen->C6,DataW->D6,Ending->F2
open Go.Lit renaming string->AS
open Go.Proofs.Tryz renaming prog->AT
open Go.DataW renaming insert->BY,map->DD,put->I8
open List renaming length_append->B2,length_cons->C1,dropLast_concat->C2,length_singleton->E0,length->If,map_id->I7
open UInt8 renaming ofNat->B3
open Go.Value renaming ownBlock->B4,oneCell'->C0
open Go.Lib renaming index->CD,splitK->IT,validD->I2
open Go.World renaming cell?->CR
open Nat renaming add_le_add_right->C5,le_succ_of_le->G2,add_comm->G3,le_max_left->IN,le_add_left->IS
open Go.Instr renaming lookup->DA
open Go.Lit.string renaming inj->D0
open Go.Maps renaming has->D9,atKey_of_not_has->HZ,look_nil->I4
open Go.RowKit renaming intOf->Ft,Below->I5
open Option renaming isSome_none->F5,isSome_some->G1,getD_none->H2
open Except renaming error->HY
open Array renaming getD->I3
open Go.Region renaming binds->I6
set_option maxRecDepth 100000
set_option maxHeartbeats 16000000
namespace Go.Proofs.YtdpomdelmdofmaaGreatDoor
open Go.Proofs.Tryz Go.RowKit Go.Maps
variable{c g cap:Nat}{l ps:List By}{sl:Bs}{es E:List (Lit×pL)}{es':Ms}{v':pL}{j:List pW}{α:Type}{G:Nat->Prop}{W:AI}
theorem Km{d x n:Int}(h:rT d x n=true):(1<=d/\d<=20)/\(0<=x/\x<=400):=by
 unfold rT rU at h;simp only[ō,decide_eq_true_eq]at h;omega
theorem VW(d x n:Int):∀(l:List St) (doc:sL) (k:Nat) (hk:k<l.length) (hr:k<(sM d x n doc l).length),(sM d x n doc l)[k]=(rF d x n (sI d x n doc (l.take k)) l[k]).1:=by
 intro l;induction l with
 |nil=>intro doc k hk;simp at hk
 |cons o r ih=>
  intro doc k hk hr;cases k with
  |zero=>rfl
  |succ k=>
   have:=ih (rF d x n doc o).2 k (by simpa using hk) (by simpa[sM]using hr);simpa[sM,sI]using this
theorem LV(l:By):qJ l≠[]:=by
 cases l with
 |nil=>intro h;cases h
 |cons c r=>
  unfold qJ;grind
theorem WV:∀l:By,(CD l [47] = -1/\l.count 47=0/\qJ l=[l])\/(CD l [47]=(tV l).length/\∃r,l=tV l++47::r/\l.count 47=r.count 47+1/\qJ l=tV l::qJ r)
 |[]=>Å ⟨rfl,rfl,rfl⟩
 |b::l=>by
  by_cases hb:b=47
  .subst hb;exact À ⟨θ,l,θ,φ,θ⟩
  .have h1:tV (b::l)=b::tV l:=by simp[tV,hb]
   have h2:CD (b::l) [47]=if CD l [47]==-1 then -1 else CD l [47]+1:=by
    grind [tV,qJ,CD]
   have h3:(b::l).count 47=l.count 47:=ε;have h4:qJ (b::l)=match qJ l with|p::ps=>(b::p)::ps|[]=>[[b]]:=by
    grind [tV,qJ,CD]
   rw[h1,h2,h3,h4];rcases WV l with⟨e1,e2,e3⟩|⟨e1,r,e2,e3,e4⟩
   .grind
   grind
theorem QW(q0:By)(k:Nat)(l:By):IT q0 0 (k+1) l=if CD l q0==-1 then[l]else l.take ((CD l q0).toNat+0)::IT q0 0 k (l.drop ((CD l q0).toNat+q0.length)):=rfl
theorem Nr:∀(n:Nat) (l:By),l.length<=n->IT [47] 0 (l.count 47) l=qJ l
 |n,l,hn=>by
  rcases WV l with⟨e1,e2,e3⟩|⟨e1,r,e2,e3,e4⟩
  .rw[e2,e3];rfl
  .have hr:r.length<l.length:=by
    grind
   rw[e3,e4]
   match n with
   |0=>omega
   |n+1=>
    rw[<-Nr n r ζ];rw[QW,e1,if_neg φ];simp only[Int.toNat_natCast,Nat.add_zero];have t1:l.take (tV l).length=tV l:=by
     grind
    have t2:l.drop ((tV l).length+[(47:UInt8)].length)=r:=by
     have h1:(tV l++47::r).drop ((tV l).length+1)=r:=by
      rw[<-ŉ,List.drop_left' rfl];rfl
     grind
    rw[t1,t2]
theorem Vv(l:By)(w:AI)(h:l.length<=1048576)(hT:Aj w):
  CB 108 #[.string ⟨l.toArray⟩] w (.bool (I2 l)):=
 Any.utf8_ValidString Tryz.lays196 ⟨l.toArray⟩ w (by rw[AD];omega) hT.utf8
def Cb(ps:List By):List Bs:=ps.map λp=>.string ⟨p.toArray⟩
theorem XN(l:By):Lib.countB ⟨l.toArray⟩ ⟨#[47]⟩=l.count 47:=Lib.count_one 47 l
theorem LO(l:By):(Lib.splitB ⟨#[47]⟩ 0 (l.count 47) ⟨l.toArray⟩).map Value.string=Cb (qJ l):=by
 have h:=Lib.splitB_data ⟨#[47]⟩ 0 (l.count 47) ⟨l.toArray⟩;have h2:(Lib.splitB ⟨#[47]⟩ 0 (l.count 47) ⟨l.toArray⟩).map (·.data.toList)=qJ l:=h.trans (Nr l.length l (Á _));unfold Cb;rw[<-h2,Ý];rfl
theorem Su(l:By):(qJ l).length=l.count 47+1:=by
 have h:=congrArg If (LO l);have h1:=Lib.splitB_all ⟨#[47]⟩ η 0 (l.count 47) ⟨l.toArray⟩ (XN l);rw[æ]at h;unfold Cb at h;grind
theorem VO(l:By)(w:AI)(h:l.length<=1048576)(hm:Mx w):
  CL AT 109 #[.string ⟨l.toArray⟩,.string ⟨#[47]⟩] w λe w'=>e=.returned (.slice (some ⟨w.1.size,0,none⟩) (qJ l).length (qJ l).length)/\w'=w.alloc (.cells (Cb (qJ l)).toArray 9):=by
 obtain⟨m,hm⟩:=hm;have c:=Any.strings_Split Tryz.lays146 δ ⟨l.toArray⟩ ⟨#[47]⟩ m w (by rw[AD];omega) hm η;rw[XN,LO,<-Su]at c;exact c
theorem oI(l:By)(h:l≠[]):rC l=Lib.decodeL l:=by rw[Dt l h,Lib.decodeL_N]
theorem O7:∀(n:Nat) (l:By),l.length<=n->tA l=I2 l
 |_,[],_=>by rw[O8,Lib.validD_nil]
 |0,_::_,h=>by simp at h
 |n+1,a::r,h=>by
  have hne:a::r≠[]:=φ;have hD:=VR a r;rw[oI _ hne]at hD;have hw:=Lib.decodeL_width (a::r);rw[Lib.validD_step _ hne];rcases hD with⟨⟨h1,h2⟩,h3⟩|⟨h1,h3⟩
  .rw[if_pos ⟨h1,ζ⟩,cV hne (by rw[h3])]
  .rw[if_neg ζ,OR hne ε,h3];exact O7 n _ ε
def sF:By->By->Option (List By)
 |t,[]=>some [t]
 |t,c::r=>if c=47 then(sF [] r).map (t :: ·)else if c=126 then(match r with
  |48::q=>sF (t++[126]) q
  |49::q=>sF (t++[47]) q
  |_=>none)else sF (t++[c]) r
theorem JJ(t:By)(c:UInt8)(r:By):sF t (c::r)=if c=47 then(sF [] r).map (t :: ·)else if c=126 then(match r with
  |48::q=>sF (t++[126]) q
  |49::q=>sF (t++[47]) q
  |_=>none)else sF (t++[c]) r:=by
 match r with
 |[]=>rfl
 |b::q=>
  by_cases h0:b=48
  .subst h0;rfl
  .by_cases h1:b=49
   .subst h1;rfl
   .conv=>lhs;unfold sF
    rfl
def uK(t:By):List By->Option (List By)
 |[]=>none
 |p::ps=>match qC p with
  |none=>none
  |some k=>(rQ ps).map ((t++k) :: ·)
theorem EF(t p:By)(ps:List By):uK t (p::ps)=match qC p with
  |none=>none
  |some k=>(rQ ps).map ((t++k) :: ·):=rfl
theorem nA(p:By)(ps:List By):rQ (p::ps)=match qC p with
  |none=>none
  |some k=>(rQ ps).map (k :: ·):=rfl
theorem Pa:∀ps:List By,ps≠[]->uK [] ps=rQ ps
 |[],h=>absurd rfl h
 |p::ps,_=>by
  rfl
theorem Wi(r:By):qJ (47::r)=[]::qJ r:=by
 rfl
theorem Px{c:UInt8}(h:c≠47)(r:By):∃p ps,qJ r=p::ps/\qJ (c::r)=(c::p)::ps:=by
 cases hp:qJ r with
 |nil=>exact absurd hp (LV r)
 |cons p ps=>
  refine⟨p,ps,rfl,?_⟩;conv=>lhs;unfold qJ
  grind
theorem Yq{c:UInt8}(h:c≠126)(r:By):qC (c::r)=(qC r).map (c :: ·):=by rw[Dy,if_neg h]
theorem Ie:∀(n:Nat) (l t:By),l.length<=n->sF t l=uK t (qJ l)
 |_,[],t,_=>by simp[sF,qJ,uK,qC,rQ]
 |0,_::_,_,h=>by simp at h
 |n+1,c::r,t,h=>by
  simp only[É]at h;rw[JJ];by_cases q4:c=47
  .subst q4;rw[if_pos rfl,Wi,Ie n r [] ζ,Pa _ (LV r)];simp[uK,qC]
  .rw[if_neg q4];by_cases q0:c=126
   .subst q0;rw[if_pos rfl];obtain⟨p,ps,hp,hq⟩:=Px q4 r;rw[hq]
    match r,hp,h with
    |[],hp,_=>
     injection hp with hp _;grind [qC,uK,EF]
    |b::q,hp,h=>
     simp only[É]at h;by_cases q5:b=47
     .grind [qC,uK,EF,Dy,sF,qJ,rQ,C1]
     .obtain⟨p2,qb,q6,q9⟩:=Px q5 q;rw[q9]at hp;injection hp with hp hps;subst hp;subst hps;by_cases q7:b=48
      .subst q7;simp only;rw[Ie n q _ ζ,q6];grind [qC,uK,EF]
      .by_cases q8:b=49
       .subst q8;simp only;rw[Ie n q _ ζ,q6];grind [qC,uK,EF]
       grind [qC,uK,EF,Dy,sF,qJ,rQ,C1]
   .rw[if_neg q0];obtain⟨p,ps,hp,hq⟩:=Px q4 r;rw[hq,Ie n r _ ζ,hp];rw[EF,EF,Yq q0];grind
theorem Yw(l:By):qX l=match l with
  |[]=>some []
  |c::r=>if tA (c::r)=true then(if c=47 then sF [] r else none)else none:=by
 cases l with
 |nil=>rfl
 |cons c r=>
  simp only;unfold qX;rw[O7 _ _ (Á _)];split
  .by_cases h:c=47
   .subst h;rw[if_pos rfl,Wi,Ie _ r [] (Á _),Pa _ (LV r)]
   grind [qX,qJ,rQ]
  .rfl
theorem gS(l:By)(hd:l.all (sB.contains ·)=true):∀(a:Nat) (b:Int),b=min (a:Int) 1000000000->rX l b=min (sG a l:Int) 1000000000:=by
 induction l with
 |nil=>intro a b h;exact h
 |cons c r ih=>
  intro a b h;rw[Ő,ō]at hd;obtain⟨c1,c2⟩:=KH c hd.1;have hs:sG a (c::r)=sG (a*10+(c.toNat-48)) r:=rfl;rw[rX,hs];exact ih hd.2 _ _ ζ
theorem FB:∀(f g:Nat) (o:O),qM f o->f<=g->pO g o=pO f o
 |0,_,_,h,_=>h.elim
 |f+1,0,_,_,hg=>ζ
 |f+1,g+1,o,h,hg=>by
  rcases h with⟨k,_,rfl⟩|⟨n,rfl,_⟩|⟨s,rfl⟩|⟨es,rfl,h⟩|⟨es,rfl,_,h⟩
  .rfl
  .rfl
  .rfl
  .show Ak (es.map (pO g))=Ak (es.map (pO f));rw[ä λe he=>FB f g e (h e he) ζ]
  .show sZ (Ap []) ((qK es).map λp=>(p.1,pO g p.2))=sZ (Ap []) ((qK es).map λp=>(p.1,pO f p.2));congr 1;apply ä;intro p hp;unfold qK at hp;obtain⟨q,hq,rfl⟩:=Ò.1 hp;show(AS q.1,pO g q.2)=(AS q.1,pO f q.2)
   rw[FB f g q.2 (h q hq) ζ]
theorem Zd(f:Nat)(es:Ms)(hnd:(es.map (·.1)).Nodup):∃es',pO (f+1) (qF es)=Ap es'/\es'.Perm (es.map λp=>(AS p.1,pO f p.2))/\es'.Pairwise (λp q=>p.1≠q.1):=by
 have q0:((qK es).map λp=>(p.1,pO f p.2)).Pairwise (λp q=>p.1≠q.1):=by
  unfold qK;rw[Ć,Ć];have h2:es.Pairwise (λa b=>a.1≠b.1):=Ć.1 hnd;exact h2.imp λh e=>h (D0 e)
 obtain⟨L,hL⟩:∃L:List (Lit×pL),L=(qK es).map λp=>(p.1,pO f p.2):=⟨_,rfl⟩
 rw[<-hL]at q0;obtain⟨E',e1,e2⟩:=NL L [] q0;rw[Ù]at e2;refine⟨E',by rw[hL]at e1;exact e1,?_,e2.symm.pairwise q0 (λhab=>ň hab)⟩;refine e2.trans (List.Perm.of_eq ?_);rw[hL];unfold qK;simp_all
def qU(k:By):Ms->Option O
 |[]=>none
 |p::r=>if p.1=k then some p.2 else qU k r
theorem Cf{k:By}{o:O}:∀{es:Ms},qU k es=some o->(k,o)∈es
 |[],h=>by cases h
 |p::r,h=>by
  unfold qU at h;split at h
  .grind
  .exact Ø _ (Cf h)
theorem GE{k:By}:∀{es:Ms},qU k es=none ->∀p∈es,p.1≠k
 |[],_,p,hp=>by cases hp
 |q::r,h,p,hp=>by
  unfold qU at h;split at h
  .cases h
  .rename_i e;rcases Ë.1 hp with rfl|hp
   .exact e
   .exact GE h p hp
def uJ(o:O)(t:By):Except Nat O:=match o with
 |.map es=>(match qU t (es.map λp=>(strOf p.1,p.2))with
  |some x=>.ok x
  |none=>.error 11)
 |.slice es _=>(match qG t with
  |none=>.error 12
  |some i=>match es[i]? with
   |some e=>.ok e
   |none=>.error 11)
 |_=>.error 11
def sR(o:O):List By->Except Nat O
 |[]=>.ok o
 |t::r=>match uJ o t with
  |.ok e=>sR e r
  |.error c=>.error c
theorem IY(es:Ms)(t:By):uJ (qF es) t=match qU t es with|some x=>.ok x|none=>.error 11:=by
 unfold uJ qF qK;simp only;rw[Ý];have:es.map ((λp:Lit×O=>(strOf p.1,p.2)) ∘ λp=>(AS p.1,p.2))=es:=by
  conv=>rhs;rw[<-I7 es]
  rfl
 rw[this]
theorem N4{f:Nat}{o:O}{t:By}(h:qM (f+1) o):
  (∃y,uJ o t=.ok y/\qM f y/\qA (pO (f+1) o) t=.ok (pO f y))\/(∃c,uJ o t=.error c/\qA (pO (f+1) o) t=.error c):=by
 rcases h with⟨k,_,rfl⟩|⟨n,rfl,_⟩|⟨s,rfl⟩|⟨es,rfl,h⟩|⟨es,rfl,hnd,h⟩
 .exact À ⟨11,rfl,rfl⟩
 .exact À ⟨11,rfl,rfl⟩
 .exact À ⟨11,rfl,rfl⟩
 .have e:pO (f+1) (rK es)=Ak (es.map (pO f)):=rfl;rw[e];unfold uJ qA rK Ak;simp only;cases qG t with
  |none=>grind
  |some i=>
   simp only[Þ];cases hx:es[i]? with
   |none=>grind
   |some y=>grind
 .obtain⟨es',e1,e2,e3⟩:=Zd f es hnd;rw[e1,IY];have q0:∀p∈es',∃s,p.1=.string s:=ε;unfold qA Ap;simp only;cases hm:qU t es with
  |some y=>
   have hy:=Cf hm;have hin:(AS t,pO f y)∈es':=ε;have hh:D9 (.map es':pL) (.string t)=true:=è.2 ⟨_,hin,î trivial⟩;rw[if_pos hh,Ă .nil (show WideAt.IsKeyLit (AS t)from trivial) e3 hin];grind
  |none=>
   have hh:¬D9 (.map es':pL) (.string t)=true:=λhh=>by
    obtain⟨p,hp,hs⟩:=è.1 (show es'.any (λp=>p.1.sameKey (.string t))=true from hh);have e:=ć hs;obtain⟨q,hq,rfl⟩:=Ò.1 (e2.mem_iff.1 hp);exact GE hm q hq (D0 e)
   grind
theorem I1:∀(l:List By) (f:Nat) (o:O),qM f o ->
  (∃y f',sR o l=.ok y/\f'+l.length=f/\qM f' y/\Ag (pO f o) l=.ok (pO f' y))\/(∃c,(c=11\/c=12)/\sR o l=.error c/\Ag (pO f o) l=.error c)
 |[],f,o,h=>Å ⟨o,f,rfl,rfl,h,rfl⟩
 |t::r,0,o,h=>h.elim
 |t::r,f+1,o,h=>by
  rcases N4 (t:=t) h with⟨y,h1,h2,h3⟩|⟨c,h1,h2⟩
  .have e1:sR o (t::r)=sR y r:=by
    grind [pO,sR,Ag]
   have e2:Ag (pO (f+1) o) (t::r)=Ag (pO f y) r:=by
    grind [pO,sR,Ag]
   rw[e1,e2];rcases I1 r f y h2 with⟨z,f',a,b,c,d⟩|h
   .grind
   grind
  .refine À ⟨c,Dn h2,?_,?_⟩
   .grind [pO,sR,Ag]
   grind [pO,sR,Ag]
def u8s(l:By):List Bs:=l.map λc=>.int .u8 (c.toNat:Nat)
theorem dX(l:By):(u8s l).length=l.length:=by simp[u8s]
theorem dY:(Tryz.prog.info? 5).map (λi=>(i.zero,i.size,i.bytes))=some (some (.int .u8 0),1,1):=δ
theorem Qw{w:AI}{B n:Nat}{tv:Bs}{l:By}(h:w.ownsRow B 5 1 tv n (u8s l))(hn:n=l.length){w':AI}(hk:∀g,tv.ownBlock=some g->w'.1[g]?=w.1[g]?):
  (convert 117 9 tv).run AT w'=.ok (.string ⟨l.toArray⟩) w':=by
 subst hn;by_cases h0:l.length=0
 .obtain rfl:l=[]:=ε;rcases h.2 with⟨e,_⟩|⟨g,cap,cur,e,_⟩
  .subst e;rfl
  .subst e;rfl
 .obtain⟨g,cap,rfl,_,_,hg,hc⟩:=AP h ζ;have q0:=hk g rfl;have:=run_convert_bytes_arg (P:=AT) w' 117 5 underlying117 underlying5 g 0 l.length cap (l.map λc=>((c.toNat:Nat):Int)) φ (λi hi=>by
   rw[ė,Ç (w:=w) q0];refine(hc i (by rw[dX];exact hi)).trans ?_;simp[u8s,hi]) 9 underlying9
  rw[this];congr 2;unfold strOfNums;rw[Ý,show((λn:Int=>B3 n.toNat) ∘ λc:UInt8=>((c.toNat:Nat):Int))=id from funext λc=>φ,I7]
def Bk(w:AI)(v:Bs)(l:List By):Prop:=
 (l=[]/\∃a c,v=.slice a 0 c)\/(0<l.length/\∃g off cap,v=.slice (some ⟨g,off,none⟩) l.length cap/\l.length<=cap/\cap<=C6/\g<w.1.size/\∀k (hk:k<l.length),w.cell? ⟨g,off+k,none⟩=some (.string ⟨l[k].toArray⟩))
theorem Bk.bel{w w':AI}{v:Bs}(h:Bk w v l)(hb:Bl w w'):Bk w' v l:=by
 rcases h with h|⟨hp,g,off,cap,rfl,h1,h2,hg,hc⟩
 .exact Å h
 .exact À ⟨hp,g,off,cap,rfl,h1,h2,Õ hg hb.size,λk hk=>(hb.cell (p:=⟨g,off+k,none⟩) hg).trans (hc k hk)⟩
theorem Yy{w:AI}{B:Nat}{v:Bs}(h:w.ownsRow B 9 1 v l.length (Cb l)):Bk w v l:=by
 by_cases h0:l.length=0
 .obtain rfl:l=[]:=ε;rcases h.2 with⟨e,_⟩|⟨g,cap,cur,e,_⟩
  .exact Å ⟨rfl,none,0,e⟩
  .exact Å ⟨rfl,_,cap,e⟩
 .obtain⟨g,cap,rfl,h1,h2,hg,hc⟩:=AP h ζ;refine À ⟨ζ,g,0,cap,rfl,h1,h2,hg,λk hk=>?_⟩;rw[ė];refine(hc k (by simpa[Cb]using hk)).trans ?_;simp[Cb]
def FG(lo:Nat)(o:Option (List By))(e:F2)(w':AI):Prop:=match o with
 |some ks=>∃v,e=.returned (.tuple #[v,.bool true])/\Bk w' v ks/\∀g,v.ownBlock=some g->lo<=g
 |none=>e=.returned (.tuple #[.slice none 0 0,.bool false])
def TkI(t:ByteArray)(r:By)(w:AI)(lv tv:Bs)(k:Nat)(wr:AI):Prop:=
 ∃(ks:List By) (tb l':By),AtX t k l'/\sF [] r=(sF tb l').map (ks ++ ·)/\wr.ownsRow w.1.size 9 1 lv ks.length (Cb ks)/\wr.ownsRow w.1.size 5 1 tv tb.length (u8s tb)/\
  (∀g,lv.ownBlock=some g->tv.ownBlock≠some g)/\ks.length+tb.length<=k/\Bl w wr
section
variable{t:ByteArray}{r:By}{w wr w6:AI}{lv tv:Bs}{k:Nat}{ks:List By}{tb l':By}
theorem TkI.slash{o:Obj}(q4:AtX t k (47::l'))(htk:sF [] r=(sF tb (47::l')).map (ks ++ ·))(q5:wr.ownsRow w.1.size 9 1 lv ks.length (Cb ks))(q7:ks.length+tb.length<=k)(q0:Bl w wr)(q6:w6.ownsRow w.1.size 9 1 (SlB g (ks.length+1) cap) (ks.length+1) (Cb ks++[.string ⟨tb.toArray⟩]))(hg:(wr.alloc o).grownBy w6 lv.ownBlock):TkI t r w (SlB g (ks.length+1) cap) (.slice none 0 0) (k+1) w6:=by
 have hsz:=q0.size;refine⟨ks++[tb],[],l',q4.next,?_,?_,å _ _ _ _,(λg _ h=>by simp[B4]at h),ω,?_⟩
 .rw[htk,JJ,if_pos rfl];cases sF [] l'<;>simp
 .grind [sF,JJ,B4,Cb,B2,E0]
 .refine q0.trans ⟨hg.os,hg.tape,hg.output,Ã (show wr.1.size<=(wr.alloc o).1.size from φ) hg.size,λj hj=>?_⟩;refine(hg.block j ω ?_).trans (Ä wr o j ζ);intro h;have:=(Af q5 j h.symm).2;omega
theorem TkI.byte{o:Obj}{n:Nat}{x:UInt8}{l2:By}(q6:AtX t (k+n) l2)(hn:1<=n)(htk:sF [] r=(sF (tb++[x]) l2).map (ks ++ ·))(q4:wr.ownsRow w.1.size 9 1 lv ks.length (Cb ks))(q9:wr.ownsRow w.1.size 5 1 tv tb.length (u8s tb))(hne:∀g,lv.ownBlock=some g->tv.ownBlock≠some g)(qb:ks.length+tb.length<=k)(q5:Bl w wr)(q8:w6.ownsRow w.1.size 5 1 (SlB g (tb.length+1) cap) (tb.length+1) (u8s tb++[.int .u8 (x.toNat:Nat)]))(hg:(wr.alloc o).grownBy w6 tv.ownBlock)(q7:tv.ownBlock=some g\/g=wr.1.size+1):
  TkI t r w lv (SlB g (tb.length+1) cap) (k+n) w6:=by
 have hsz:=q5.size;refine⟨ks,tb++[x],l2,q6,htk,?_,?_,?_,ω,?_⟩
 .refine Am q4 λg' q0=>?_;have hlt:=(Af q4 g' q0).1;exact(hg.block g' ω ε).trans (Ä wr o g' ζ)
 .grind [sF,u8s,B2]
 .intro g' q0 h;have hlt:=(Af q4 g' q0).1;have e:g=g':=by simpa[B4]using h
  grind
 .refine q5.trans ⟨hg.os,hg.tape,hg.output,Ã (show wr.1.size<=(wr.alloc o).1.size from φ) hg.size,λj hj=>?_⟩;refine(hg.block j ω ?_).trans (Ä wr o j ζ);intro h;have:=(Af q9 j h.symm).2;omega
end
theorem Q7(w:AI):CL AT 68 #[.string ⟨#[]⟩] w λe w'=>FG w.1.size (some []) e w'/\Bl w w':=by
 have HU:=Ab (IM ⟨#[]⟩ η w);go_enter func68,ntmps68;go_wp2_with fail;refine HU.u.mono ?_;rintro e w1⟨rfl,hb⟩;go_wp2;go_ret2;exact⟨⟨_,rfl,Å ⟨rfl,none,0,rfl⟩,λg h=>by cases h⟩,hb⟩
theorem Pp{t:ByteArray}{c:UInt8}{r:By}(ht:AtX t 0 (c::r))(zo:t.size<=8000000000000)(w:AI):CL AT 68 #[.string t] w λe w'=>FG w.1.size (qX (c::r)) e w'/\Bl w w':=by
 have z2:t.data.toList=c::r:=by simpa using ht.eq
 have HU:=Ab (IM t ht.small w);rw[z2]at HU;have hE:=Mr (X:=t) (k:=r.length) (by have:=ht.len;grind);have hlt:=ht.lt;have zg:t[0]'hlt=c:=ht.byte;obtain⟨R,hR⟩:∃R,R=qX (c::r):=⟨_,rfl⟩
 have qv:=hR;rw[Yw]at qv;simp only at qv;rw[<-hR];have HT:=Ab ht;have zj:=Ab z2;have HR:=Ab qv;clear ht z2 hR qv;go_enter func68,ntmps68;go_wp2_with fail;refine HU.u.mono ?_;rintro e w1⟨rfl,hb⟩;have HB:=Ab hb;clear hb HU;cases hu:tA (c::r)with
 |false=>
  have HF:=Ab (show R=none by rw[HR.u,if_neg (by rw[hu];decide)]);clear hu;go_wp2;go_ret2;exact⟨by rw[HF.u];rfl,HB.u⟩
 |true=>
  by_cases q9:c=47
  .have HF:=Ab (show R=sF [] r by rw[HR.u,if_pos hu,if_pos q9]);subst q9;clear hu HR;have hI:TkI t r w (.slice none 0 0) (.slice none 0 0) 1 w1:=by
    refine⟨[],[],r,?_,?_,å _ _ _ _,å _ _ _ _,(λg hg=>by simp[B4]at hg),φ,HB.u⟩
    .have:=HT.u.next;omega
    simp_all
   have HI:=Ab hI;clear hI;obtain⟨i0,z3,hz0,z5,hz2⟩:=ę dY;obtain⟨j0,z6,z7,z8,z9⟩:=ę OU;go_wp2_with fail;clear zg hE;go_loopw [5,6,7] (λlv tv i wr=>∃(k:Nat) (za zb:Bs),za=lv/\zb=tv/\i=InB k/\Hid (TkI t r w za zb k wr)) (λ_ _ i _=>t.size-(Ft i).toNat)
   case atStart=>grind
   case round=>
    obtain⟨k,lv,tv,rfl,rfl,rfl,hI⟩:=hrel;obtain⟨ks,tb,l',q8,htk,qh,qd,hne,qw,qf⟩:=hI.u;have qo:=q8.len;have zn:=q8.le;have zm:=λn=>Qw qd rfl (w':=wr.drewN n) (λ_ _=>rfl);have zh:=Qw qd rfl (w':=wr) (λ_ _=>rfl);have zi:=qf.size;have qk:=Ab qh;have qn:=Ab qd;have qt:=Ab q8;have qu:=Ab htk;have z0:=Ab hne;have qj:=Ab qf;clear hI;cases l' with
    |nil=>
     have e1:¬k<t.size:=ε;have qq:=Ab (show R=some (ks++[tb]) by rw[HF.u,htk];rfl);clear qh qd q8 htk hne qf;go_wp2_with (at_builtin;refine õ _ rfl _ _ _ rfl w.1.size 9 j0 _ 1 16 underlying59 z6 z7 z8 z9 rfl η lv ks.length (Cb ks) rfl (ĭ qk.u _) ⟨wr.1.size,0,none⟩ 1 1 [.string ⟨tb.toArray⟩] rfl rfl (Ö (cs:=#[.string ⟨tb.toArray⟩]) (t:=9) (fr:=(0,0)) (Ê wr _)) (by simp[C0]) η (by unfold C6;omega) ζ ω (wr.1.size+1) φ ?_;intro g cap w6 q4 q0 q7 qg;have q6:=Ab q4;have q5:=Ab q0;clear q4 q0 q7);have zf:Bl w w6:=by
      have hg:=q5.u;refine qj.u.trans ⟨hg.os,hg.tape,hg.output,Ã φ hg.size,λj hj=>?_⟩;refine(hg.block j ω ?_).trans (Ä wr _ j ζ);intro h;have:=(Af qk.u j h.symm).2;omega
     have qi:w6.ownsRow w.1.size 9 1 (SlB g (ks.length+1) cap) (ks++[tb]).length (Cb (ks++[tb])):=by
      have e:Cb (ks++[tb])=Cb ks++[.string ⟨tb.toArray⟩]:=by simp[Cb]
      rw[e,Ñ,E0];exact q6.u
     go_ret2;exact⟨by rw[qq.u];exact⟨_,rfl,Yy qi,λg h=>(Af qi g h).2⟩,zf⟩
    |cons d l'=>
     have e1:=q8.lt;have hb:t[k]'e1=d:=q8.byte;by_cases q9:d=47
     .subst q9;clear qh qd q8 htk hne qf qo;go_wp2_with (at_builtin;refine õ _ rfl _ _ _ rfl w.1.size 9 j0 _ 1 16 underlying59 z6 z7 z8 z9 rfl η lv ks.length (Cb ks) rfl (ĭ qk.u _) ⟨wr.1.size,0,none⟩ 1 1 [.string ⟨tb.toArray⟩] rfl rfl (Ö (cs:=#[.string ⟨tb.toArray⟩]) (t:=9) (fr:=(0,0)) (Ê wr _)) (by simp[C0]) η (by unfold C6;omega) ζ ω (wr.1.size+1) φ ?_;intro g cap w6 q4 q0 q7 qg;have q6:=Ab q4;have q5:=Ab q0;clear q4 q0 q7);exact⟨⟨k+1,_,_,rfl,rfl,ψ,TkI.slash qt.u qu.u qk.u qw qj.u q6.u q5.u⟩,by simp only[Ft];omega⟩
     .have ze:((d.toNat:Int)==47)=false:=by
       rw[beq_eq_false_iff_ne];intro h;exact q9 (ì.1 ε)
      by_cases qe:d=126
      .subst qe;cases l' with
       |nil=>
        have e2:¬(k:Int)+1<(t.size:Int):=ε;have qq:=Ab (show R=none by rw[HF.u,htk];rfl);clear qh qd q8 htk hne qf qo q9;go_wp2;go_ret2;exact⟨by rw[qq.u];rfl,qj.u⟩
       |cons x q=>
        have e2:=q8.next.lt;have hb2:t[k+1]'e2=x:=q8.next.byte;have e3:(k:Int)+1<(t.size:Int):=ζ;by_cases qy:x=48
        .subst qy;clear qh qd q8 htk hne qf qo q9;go_wp2_with (at_builtin;refine õ _ rfl _ _ _ rfl w.1.size 5 i0 _ 1 1 underlying117 z3 hz0 z5 hz2 rfl η tv tb.length (u8s tb) rfl (ĭ qn.u _) ⟨wr.1.size,0,none⟩ 1 1 [.int .u8 126] rfl rfl (Ö (cs:=#[.int .u8 126]) (t:=5) (fr:=(0,0)) (Ê wr _)) (by simp[C0]) η (by unfold C6;omega) ζ ω (wr.1.size+1) φ ?_;intro g cap w6 q4 q0 q7 qg;have q6:=Ab q4;have q5:=Ab q0;have qb:=Ab q7;clear q4 q0 q7);have qm:AtX t (k+2) q:=qt.u.next.next;have qr:=TkI.byte (x:=126) (n:=2) qm ζ (qu.u.trans θ) qk.u qn.u z0.u qw qj.u q6.u q5.u qb.u;exact⟨⟨k+2,_,_,rfl,rfl,ψ,qr⟩,by simp only[Ft];omega⟩
        .have zk:((x.toNat:Int)==48)=false:=by
          rw[beq_eq_false_iff_ne];intro h;exact qy (ì.1 ε)
         by_cases z4:x=49
         .subst z4;clear qh qd q8 htk hne qf qo q9 qy;go_wp2_with (at_builtin;refine õ _ rfl _ _ _ rfl w.1.size 5 i0 _ 1 1 underlying117 z3 hz0 z5 hz2 rfl η tv tb.length (u8s tb) rfl (ĭ qn.u _) ⟨wr.1.size,0,none⟩ 1 1 [.int .u8 47] rfl rfl (Ö (cs:=#[.int .u8 47]) (t:=5) (fr:=(0,0)) (Ê wr _)) (by simp[C0]) η (by unfold C6;omega) ζ ω (wr.1.size+1) φ ?_;intro g cap w6 q4 q0 q7 qg;have q6:=Ab q4;have q5:=Ab q0;have qb:=Ab q7;clear q4 q0 q7);have qm:AtX t (k+2) q:=qt.u.next.next;have qr:=TkI.byte (x:=47) (n:=2) qm ζ (qu.u.trans θ) qk.u qn.u z0.u qw qj.u q6.u q5.u qb.u;exact⟨⟨k+2,_,_,rfl,rfl,ψ,qr⟩,by simp only[Ft];omega⟩
         .have zl:((x.toNat:Int)==49)=false:=by
           rw[beq_eq_false_iff_ne];intro h;exact z4 (ì.1 ε)
          have qq:=Ab (show R=none by
           rw[HF.u,htk,JJ,if_neg η,if_pos rfl];grind)
          clear qh qd q8 htk hne qf qo q9 qy z4;go_wp2;go_ret2;exact⟨by rw[qq.u];rfl,qj.u⟩
      .have zc:((d.toNat:Int)==126)=false:=by
        rw[beq_eq_false_iff_ne];intro h;exact qe (ì.1 ε)
       have z1:=Ab (qu.u.trans (show _=(sF (tb++[d]) l').map (ks ++ ·) by rw[JJ,if_neg q9,if_neg qe]));have qz:=Ab qt.u.next;clear qh qd q8 htk hne qf qo q9 qe;go_wp2_with (at_builtin;refine õ _ rfl _ _ _ rfl w.1.size 5 i0 _ 1 1 underlying117 z3 hz0 z5 hz2 rfl η tv tb.length (u8s tb) rfl (ĭ qn.u _) ⟨wr.1.size,0,none⟩ 1 1 [.int .u8 (d.toNat:Nat)] rfl rfl (Ö (cs:=#[.int .u8 (d.toNat:Nat)]) (t:=5) (fr:=(0,0)) (Ê wr _)) (by simp[C0]) η (by unfold C6;omega) ζ ω (wr.1.size+1) φ ?_;intro g cap w6 q4 q0 q7 qg;have q6:=Ab q4;have q5:=Ab q0;have qb:=Ab q7;clear q4 q0 q7);have qr:=TkI.byte (x:=d) (n:=1) qz.u ζ z1.u qk.u qn.u z0.u qw qj.u q6.u q5.u qb.u;exact⟨⟨k+1,_,_,rfl,rfl,ψ,qr⟩,by simp only[Ft];omega⟩
  .have HF:=Ab (show R=none by rw[HR.u,if_pos hu,if_neg q9]);have ze:((c.toNat:Int)==47)=false:=by
    rw[beq_eq_false_iff_ne];intro h;exact q9 (ì.1 ε)
   clear hu HR;go_wp2;go_ret2;exact⟨by rw[HF.u];rfl,HB.u⟩
def tD(t:By):Int:=match qG t with
 |none=>-1
 |some i=>min (i:Int) 1000000000
theorem Ti(c:UInt8):sB.contains c=qW c:=by
 rw[ī];constructor
 .intro h;rw[CI];exact KH c h
 .intro h;rw[CI]at h;have hb:∀n:Fin 256,48<=n.val/\n.val<=57->sB.contains (B3 n.val)=true:=by decide +kernel
  have:=hb ⟨c.toNat,c.toNat_lt⟩ h;simp_all
theorem Jg{t:By}(h:qG t=none):tD t = -1:=by unfold tD;rw[h]
theorem ZM{t:By}(h:¬(t=[]\/(1<t.length/\t[0]?=some 48)\/t.all (sB.contains ·)=false)):tD t=rX t 0:=by
 unfold tD;rw[Lj h];have hd:t.all (sB.contains ·)=true:=by
  grind
 rw[gS t hd 0 0 ζ];grind
theorem Ua(w:AI):CB 96 #[.string ⟨#[]⟩] w (InB (-1)):=by
 go_enter func96,ntmps96;go_wp2;go_ret;exact⟨rfl,Â _ _⟩
theorem cG(d:UInt8)(l':By):(d::l').all (sB.contains ·)=(qW d && l'.all (sB.contains ·)):=by
 rw[Ő,Ti]
theorem NJ{X:ByteArray}{l:By}(ha:AtX X 0 l)(hne:l≠[])(h0:¬(1<l.length/\l[0]?=some 48))(w:AI):CB 96 #[.string X] w (InB (tD l)):=by
 cases l with
 |nil=>grind
 |cons c r=>
  have q6:X.data.toList=c::r:=by simpa using ha.eq
  have hE:=Mr (X:=X) (k:=r.length) (by have:=ha.len;grind);have hlt:=ha.lt;have qd:X[0]'hlt=c:=ha.byte;have qh:=ha.small;have hG:=Ab (λ(hd:∀c∈X.data.toList,qW c=true)=>Fz X qh hd w);obtain⟨R,hR⟩:∃R,R=tD (c::r):=⟨_,rfl⟩
  have q4:=Ab (show(c::r).all (sB.contains ·)=true->R=rX X.data.toList 0/\∀c∈X.data.toList,qW c=true from λh=>by
   refine⟨?_,?_⟩
   .rw[hR,ZM ε,q6]
   .intro d hd;rw[q6]at hd;rw[<-Ti];grind)
  have qe:=Ab (show(c::r).all (sB.contains ·)=false->R = -1 from λh=>by rw[hR,Jg (GN (À (À h)))]);have HA:=Ab ha;rw[<-hR];clear ha hne hR;have hrest:∀(q7:Bool) (hf:((X[0].toNat:Int)==48)=q7) (hz:q7=true->X=⟨#[48]⟩),CB 96 #[.string X] w (InB R):=by
   intro q7 hf hz;cases q7 with
   |true=>
    obtain rfl:=hz rfl;have qb:=q4.u (by
     have:(c::r)=[48]:=ε;rw[this];decide)
    have HG:=Ab (hG.u qb.2);have q9:=Ab qb.1;clear hf hz hE qd q6 hG qb q4 qe HA h0;go_enter func96,ntmps96;go_wp2_with fail;refine ø 2 ?_;rw[ď];go_wp2_with fail;rw[ď];go_wp2_with fail;refine HG.u.mono ?_;rintro e w2⟨rfl,rfl⟩;go_wp2;go_ret;exact⟨by rw[q9.u];rfl,Â _ _⟩
   |false=>
    clear hz h0 q6 qd;go_enter func96,ntmps96;go_wp2_with fail;clear hf hE;go_loopw [3] (λi wr=>∃(k:Nat) (l':By),i=InB k/\Hid (AtX X k l')/\Hid ((c::r).all (sB.contains ·)=l'.all (sB.contains ·))/\wr=w) (λi _=>X.size-(Ft i).toNat)
    case atStart=>grind
    case round=>
     obtain⟨k,l',rfl,HK,q8,rfl⟩:=hrel;cases l' with
     |nil=>
      have e1:¬k<X.size:=by have:=HK.u.nil;omega
      have hy:=q4.u (by rw[q8.u];rfl);have HG:=Ab (hG.u hy.2);have q9:=Ab hy.1;clear hG hy;go_wp2_with fail;refine HG.u.mono ?_;rintro e w2⟨rfl,rfl⟩;go_wp2;go_ret;exact⟨by rw[q9.u];rfl,Â _ _⟩
     |cons d l'=>
      have e1:=HK.u.lt;have hb:X[k]'e1=d:=HK.u.byte;have qi:=Ab HK.u.next;have q0:=cG d l';cases hd:qW d with
      |true=>
       rw[hd,Bool.true_and]at q0;have qg:=Ab (q8.u.trans q0);have q5:=(CI d).1 hd;rw[<-hb]at q5;have f1:decide ((X[k].toNat:Int)<48)=false:=ε;have f2:decide ((57:Int)<(X[k].toNat:Int))=false:=ε;clear hd q0 hb q5;go_wp2;exact⟨ε,by simp only[Ft];omega⟩
      |false=>
       rw[hd,Bool.false_and]at q0;have HF:=Ab (qe.u (q8.u.trans q0));have q5:¬(48<=d.toNat/\d.toNat<=57):=λh=>by rw[(CI d).2 h]at hd;cases hd
       rw[<-hb]at q5;clear hd q0 hb;by_cases g1:X[k].toNat<48
       .have f1:decide ((X[k].toNat:Int)<48)=true:=decide_eq_true ζ;clear g1 q5;go_wp2;go_ret;exact⟨by rw[HF.u];rfl,Â _ _⟩
       .have f1:decide ((X[k].toNat:Int)<48)=false:=ε;have f2:decide ((57:Int)<(X[k].toNat:Int))=true:=decide_eq_true ζ;clear g1 q5;go_wp2;go_ret;exact⟨by rw[HF.u];rfl,Â _ _⟩
  by_cases qf:c=48
  .refine hrest true κ λ_=>?_;have hr:r=[]:=by
    grind
   subst hr;subst qf;exact dG q6
  .exact hrest false (by rw[qd,beq_eq_false_iff_ne];intro h;exact qf (ì.1 ε)) (λh=>by cases h)
theorem F6(t:By)(hn:t.length<=1048576)(w:AI):CB 96 #[.string ⟨t.toArray⟩] w (InB (tD t)):=by
 match t,hn with
 |[],_=>exact Ua w
 |[c],hn=>exact NJ (l:=[c]) ⟨by rw[AD];omega,φ,φ⟩ φ φ w
 |c::b::q,hn=>
  by_cases q0:c=48
  .subst q0;have e:tD (48::b::q) = -1:=Jg (GN ε);rw[e];go_enter func96,ntmps96;go_wp2;go_ret;exact⟨rfl,Â _ _⟩
  .exact NJ (l:=c::b::q) ⟨by rw[AD];omega,φ,φ⟩ φ ε w
def I0(F:Nat->Prop)(f n:Nat)(o:Except Nat O)(e:F2)(w':AI):Prop:=match o with
 |.ok y=>∃u f',e=.returned (.tuple #[u,InB 0])/\f'+n=f/\Ar f' F w' u y
 |.error c=>e=.returned (.tuple #[.pointer none,InB c])
theorem He{w:AI}{b:Nat}{kd:By}{ng:Bool}{ds:By}{x:Int}{s:By}(h:OB w b kd ng ds x s AE sl)(key:ByteArray):
  CL AT 95 #[PtB b,.string key] w λe w'=>e=.returned (.pointer none)/\w'=w:=by
 have c5:=h.c5;clear h;go_enter func95,ntmps95;go_wp2_with fail;refine ø 1 ?_;rw[ď];go_wp2;go_ret;simp_all
theorem KC{P:Bs->O->Prop}{k:By}:∀{es:Ms}{ps:List Bs},Al P ps (es.map (·.2))->(∃y,qU k es=some y/\P (tS k (es.map (·.1)) ps) y)\/(qU k es=none/\tS k (es.map (·.1)) ps=.pointer none)
 |[],[],_=>À ⟨rfl,rfl⟩
 |p::r,u::q,⟨h1,h2⟩=>by
  unfold qU;simp only[Ð,tS];by_cases e:p.1=k
  .grind
  .rw[if_neg e,if_neg e];exact KC h2
theorem Bk.open{w:AI}{lv:Bs}{t:By}{r:List By}(h:Bk w lv (t::r)):∃g off cap n tl,lv=.slice (some ⟨g,off,none⟩) (n+1) cap/\n=r.length/\n+1<=cap/\cap<=C6/\CeB w g off=some (.string ⟨t.toArray⟩)/\
  Bk w tl r/\((cap=1/\n=0/\tl=.slice (some ⟨g,off,none⟩) 0 0)\/(1<cap/\tl=.slice (some ⟨g,off+1,none⟩) n (cap-1))):=by
 rcases h with⟨h,_⟩|⟨_,g,off,cap,rfl,h1,h2,hg,hc⟩
 .cases h
 .simp only[É]at h1;have q0:CeB w g off=some (.string ⟨t.toArray⟩):=hc 0 φ;by_cases q4:cap=1
  .subst q4;obtain rfl:r=[]:=ε;exact⟨g,off,1,0,_,rfl,rfl,h1,h2,q0,Å ⟨rfl,_,_,rfl⟩,Å ⟨rfl,rfl,rfl⟩⟩
  .refine⟨g,off,cap,r.length,_,rfl,rfl,h1,h2,q0,?_,À ⟨ζ,rfl⟩⟩;by_cases h0:r.length=0
   .obtain rfl:r=[]:=ε;exact Å ⟨rfl,_,_,rfl⟩
   .refine À ⟨ζ,g,off+1,cap-1,rfl,ζ,ζ,hg,λk hk=>?_⟩;have:=hc (k+1) ω;grind
theorem GM:∀(l:List By),l.length<=(Bp l).length
 |[]=>Á _
 |x::r=>by
  have:=GM r;grind [Bp,C1,B2]
theorem jF(f:Nat)(es:List O):es.length<=(pP (f+1) (pO (f+1) (rK es))).length:=by
 have e:pO (f+1) (rK es)=Ak (es.map (pO f)):=rfl;rw[e,BH];cases es with
 |nil=>simp
 |cons a r=>
  have:=GM ((r.map (pO f)).map (pP f));grind [pO,BH,Ah]
theorem Tu{f:Nat}{es:List O}{e:O}(h:e∈es):(pP f (pO f e)).length<=(pP (f+1) (pO (f+1) (rK es))).length:=by
 have e1:pO (f+1) (rK es)=Ak (es.map (pO f)):=rfl;rw[e1,BH];have:=Hl (Ğ (f:=pP f) (Ğ (f:=pO f) h));grind
theorem SE{f:Nat}{es:Ms}(hnd:(es.map (·.1)).Nodup){p:By×O}(h:p∈es):(pP f (pO f p.2)).length<=(pP (f+1) (pO (f+1) (qF es))).length:=by
 obtain⟨E,e1,e2,e3⟩:=Hh f es hnd;rw[e1,EW];have hk:p.1∈(rV E).mergeSort λx y=>decide (x<=y):=(ĕ _ _).mem_iff.2 ε;have:=Hl (Ğ (f:=λk=>Ai k++58::pP f (rW E k)) hk);grind
section
variable{w:AI}{b:Nat}{F:Nat->Prop}{t:By}{r:List By}{lv:Bs}
theorem Kd{kd:By}{ng:Bool}{ds:By}{x:Int}{s:By}(h:OB w b kd ng ds x s AE AE)(hk:(kd==[97,114,114,97,121])=false)(hl:Bk w lv (t::r)):
  CB 69 #[PtB b,lv] w (.tuple #[.pointer none,InB 11]):=by
 obtain⟨g,off,cap,n,tl,rfl,_,_,_,hc,_,_⟩:=hl.open;have c0:=h.c0;have HG:=Ab (He h ⟨t.toArray⟩);clear h hl;have e1:((n:Int)+1==0)=false:=θ;go_enter func69,ntmps69;go_wp2_with fail;refine HG.u.mono ?_;rintro e w2⟨rfl,rfl⟩;go_wp2;go_ret2;exact⟨rfl,Â _ _⟩
def MG(F:Nat->Prop)(r:List By):Prop:=∀(f:Nat) (o:O) (w:AI) (v lv:Bs),Ar f F w v o->qM f o->(pP f (pO f o)).length<=1000000->Bk w lv r ->
 CL AT 69 #[v,lv] w λe w'=>I0 F f r.length (sR o r) e w'/\Bl w w'
theorem I0.down{f n:Nat}{o:Except Nat O}{e:F2}{w':AI}(h:I0 F f n o e w'):I0 F (f+1) (n+1) o e w':=by
 cases o with
 |ok y=>obtain⟨u,f',h1,h2,h3⟩:=h;exact⟨u,f',h1,ζ,h3⟩
 |error c=>exact h
theorem I0.form{f n:Nat}{o:Except Nat O}{e:F2}{w':AI}(h:I0 F f n o e w'):∃(u:Bs) (c:Nat),e=.returned (.tuple #[u,InB c]):=by
 cases o with
 |ok y=>obtain⟨u,f',h1,_⟩:=h;exact⟨u,0,h1⟩
 |error c=>exact⟨_,c,h⟩
theorem aC{f:Nat}{ps:List Bs}{es:List O}(hr:MG F r)(h:OB w b sW false [] 0 [] AE sl)(ho:w.ownsRow 0 66 1 sl ps.length ps)(hal:Al (Ar f F w) ps es)(qd:∀e∈es,qM f e)(hl:Bk w lv (t::r))(ht:t.length<=1048576)(hcl:(pP (f+1) (pO (f+1) (rK es))).length<=1000000):
  CL AT 69 #[PtB b,lv] w λe w'=>I0 F (f+1) (t::r).length (sR (rK es) (t::r)) e w'/\Bl w w':=by
 obtain⟨g,off,cap,n,tl,rfl,hn,qu,qv,hc,qe,qy⟩:=hl.open;clear hn;have c0:=h.c0;have c6:=h.c6;rw[show sW=[97,114,114,97,121]from rfl]at c0;have HG:=Ab (He h ⟨t.toArray⟩);have HI:=Ab (λw=>F6 t ht w);have q5:=hal.length;have z3:es.length<=1000000:=Ã (jF f es) hcl;have qo:=Ab hcl;clear hcl;have e1:((n:Int)+1==0)=false:=θ;obtain⟨R,hR⟩:∃R,R=sR (rK es) (t::r):=⟨_,rfl⟩
 rw[<-hR];have q4:R=match uJ (rK es) t with|.ok e=>sR e r |.error c=>.error c:=hR
 unfold uJ rK at q4;simp only at q4;have z1:(cap:Int)<=9223372036854775807:=by unfold C6 at qv;omega
 have z2:(n:Int)+1<=(cap:Int):=ζ;cases hx:qG t with
 |none=>
  rw[hx]at q4;have HF:=Ab (show R=.error 12 from q4);have q6:tD t = -1:=Jg hx;rw[q6]at HI;clear h ho hal qd hl qe hR q4 hx q5 hr;go_enter func69,ntmps69;go_wp2_with fail;refine HG.u.mono ?_;rintro e w2⟨rfl,rfl⟩;go_wp2_with fail;refine(HI.u _).mono ?_;rintro e w2⟨rfl,hb2⟩;go_wp2;go_ret2;exact⟨by rw[HF.u];rfl,hb2⟩
 |some i=>
  rw[hx]at q4;have q6:tD t=min (i:Int) 1000000000:=by unfold tD;rw[hx]
  obtain⟨N,hN⟩:∃N,N=ps.length:=⟨_,rfl⟩
  by_cases hin:i<ps.length
  .obtain⟨g2,q9,rfl,a1,a2,a3,qj⟩:=AP ho ζ;have q0:i<es.length:=ζ;simp only[Ô q0]at q4;have qb:tD t=(i:Int):=by rw[q6];omega
   rw[qb]at HI;have qk:=qj i hin;have q7:=hal.get i hin q0;obtain⟨bb,qt,_⟩:=q7.ptr;have qi:=Ab (ð (qd _ (Ó q0)) (Ã (Tu (Ó q0)) qo.u));have qg:=Ab q7;rw[<-hN]at c6 a1;have hlt:(i:Int)<(N:Int):=ζ;have qz:(N:Int)<=9223372036854775807:=by unfold C6 at a2;omega
   have qf:=Ab c6;have qn:=Ab qk;have qq:=Ab qe;have qh:=h.lt;have HF:=Ab q4;generalize ps[i]=pv at*;generalize es[i]=ev at*;subst qt;have e0:¬(i:Int)<0:=ζ;have qw:=Ab (λw (h1:Ar f F w (PtB bb) ev) (h2:Bk w tl r)=>hr f ev w _ tl h1 qi.u.1 qi.u.2 h2);clear h ho hal qd hl qe hR q4 hx q5 hr q6 qb q7 qj c6 qk hin q0 hN;rcases qy with⟨rfl,rfl,rfl⟩|⟨z0,rfl⟩;all_goals (
    go_enter func69,ntmps69;go_wp2_with fail;refine HG.u.mono ?_;rintro e w2⟨rfl,rfl⟩;go_wp2_with fail;refine(HI.u _).mono ?_;rintro e w3⟨rfl,hb3⟩;have d6:=(hb3.cell (p:=⟨b,6,none⟩) qh).trans qf.u;have di:=(hb3.cell (p:=⟨g2,i,none⟩) a3).trans qn.u;have q8:=Ab hb3;clear hb3 hc;go_wp2_with fail;refine(qw.u _ (qg.u.below q8.u) (qq.u.bel q8.u)).mono ?_;rintro e w4⟨ho,hb4⟩;obtain⟨u,c,rfl⟩:=ho.form;have HO:=Ab ho.down;have qm:=Ab (q8.u.trans (hb4.mono q8.u.size));clear ho hb4;go_wp2;go_ret2;exact⟨by rw[HF.u];exact HO.u,qm.u⟩)
  .have q0:¬i<es.length:=ζ;simp only[ĳ (Nat.le_of_not_lt q0)]at q4;have HF:=Ab (show R=.error 11 from q4);obtain⟨a,cp,rfl⟩:∃a cp,sl=.slice a ps.length cp:=by
    rcases ho.2 with⟨e,h0⟩|⟨g2,q9,cur,e,_⟩
    .grind
    .exact⟨_,q9,e⟩
   rw[<-hN]at c6;have qr:N=es.length:=ζ;have hlt:¬tD t<(N:Int):=by rw[q6];omega
   have z4:¬tD t<0:=by rw[q6];omega
   have qf:=Ab c6;have qh:=h.lt;generalize tD t=ix at*;clear h ho hal qd hl qe hR q4 hx q5 hr q6 c6 hin q0 qr hN;go_enter func69,ntmps69;go_wp2_with fail;refine HG.u.mono ?_;rintro e w2⟨rfl,rfl⟩;go_wp2_with fail;refine(HI.u _).mono ?_;rintro e w3⟨rfl,hb3⟩;have d6:=(hb3.cell (p:=⟨b,6,none⟩) qh).trans qf.u;have q8:=Ab hb3;clear hb3 hc;go_wp2;go_ret2;exact⟨by rw[HF.u];rfl,q8.u⟩
theorem aA{f:Nat}{kl:Bs}{ps:List Bs}{es:Ms}(hr:MG F r)(h:OB w b sC false [] 0 [] kl sl)(hok:w.ownsRow 0 9 1 kl es.length (es.map λp=>AG p.1))(ho:w.ownsRow 0 66 1 sl ps.length ps)(hal:Al (Ar f F w) ps (es.map (·.2)))(hnd:(es.map (·.1)).Nodup)(q6:∀p∈es,qM f p.2)(hl:Bk w lv (t::r))(hcl:(pP (f+1) (pO (f+1) (qF es))).length<=1000000):
  CL AT 69 #[PtB b,lv] w λe w'=>I0 F (f+1) (t::r).length (sR (qF es) (t::r)) e w'/\Bl w w':=by
 have qd:=Ab hcl;clear hcl;obtain⟨g,off,cap,n,tl,rfl,hn,qg,qh,hc,q8,qj⟩:=hl.open;clear hn;have c0:=h.c0;rw[show sC=[111,98,106,101,99,116]from rfl]at c0;have q7:ps.length=es.length:=by have:=hal.length;simpa using this
 have HG:=Ab (IO h (ks:=es.map (·.1)) (B1:=0) (by rw[æ,Ý];exact hok) ho (by simpa using q7) t);have e1:((n:Int)+1==0)=false:=by rw[beq_eq_false_iff_ne];omega
 obtain⟨R,hR⟩:∃R,R=sR (qF es) (t::r):=⟨_,rfl⟩
 rw[<-hR];have q0:R=match uJ (qF es) t with|.ok e=>sR e r |.error c=>.error c:=hR
 rw[IY]at q0;have qm:(cap:Int)<=9223372036854775807:=by unfold C6 at qh;omega
 have qn:(n:Int)+1<=(cap:Int):=ζ;rcases KC (k:=t) hal with⟨y,hy,q4⟩|⟨hy,hu⟩
 .rw[hy]at q0;have HF:=Ab (show R=sR y r from q0);obtain⟨bb,qf,_⟩:=q4.ptr;have q9:=Ab (ð (q6 _ (Cf hy)) (Ã (SE hnd (Cf hy)) qd.u));have q5:=Ab q4;have qe:=Ab q8;generalize tS t (es.map (·.1)) ps=u0 at*;subst qf;have qi:=Ab (λw (h1:Ar f F w (PtB bb) y) (h2:Bk w tl r)=>hr f y w _ tl h1 q9.u.1 q9.u.2 h2);clear h ho hok hal q6 hl q8 hR q0 hr q4 hy q7;rcases qj with⟨rfl,rfl,rfl⟩|⟨qk,rfl⟩;all_goals (
   go_enter func69,ntmps69;go_wp2_with fail;refine HG.u.mono ?_;rintro e w2⟨rfl,rfl⟩;go_wp2_with fail;refine(qi.u _ q5.u qe.u).mono ?_;rintro e w4⟨ho,hb4⟩;obtain⟨u,c,rfl⟩:=ho.form;have HO:=Ab ho.down;have qb:=Ab hb4;clear ho hb4;go_wp2;go_ret2;exact⟨by rw[HF.u];exact HO.u,qb.u⟩)
 .rw[hy]at q0;have HF:=Ab (show R=.error 11 from q0);rw[hu]at HG;clear h ho hok hal q6 hl q8 hR q0 hr hy hu q7;go_enter func69,ntmps69;go_wp2_with fail;refine HG.u.mono ?_;rintro e w2⟨rfl,rfl⟩;go_wp2;go_ret2;exact⟨by rw[HF.u];rfl,Â _ _⟩
end
theorem aB{f:Nat}{F:Nat->Prop}{w:AI}{v lv:Bs}{o:O}(h:Ar f F w v o)(hl:Bk w lv []):CL AT 69 #[v,lv] w λe w'=>I0 F f 0 (sR o []) e w'/\Bl w w':=by
 obtain⟨a,c,rfl⟩:∃a c,lv=.slice a 0 c:=by
  rcases hl with⟨_,h⟩|⟨h,_⟩
  .exact h
  grind
 have HH:=Ab h;clear h hl;go_enter func69,ntmps69;go_wp2;go_ret2;exact⟨⟨_,f,rfl,rfl,HH.u⟩,Â _ _⟩
theorem Hf{F:Nat->Prop}:∀(l:List By),(∀t∈l,t.length<=1048576)->MG F l
 |[],_=>λf o w v lv h _ _ hl=>aB h hl
 |t::r,ht=>λf o w v lv h hg hc hl=>by
  have hr:MG F r:=Hf r λx hx=>ht x (by simp[hx]);have q0:=ht t φ;cases f with
  |zero=>exact h.elim
  |succ f=>
   obtain⟨b,rfl,_,h⟩:=h;rcases h with⟨k,hk,rfl,h⟩|⟨n,x,rfl,h⟩|⟨s,rfl,h⟩|⟨es,sl,ps,rfl,h,ho,_,ha⟩|⟨es,kl,sl,ps,rfl,h,ho,_,ho2,_,ha⟩
   .have hw:(rE.getD k []==[97,114,114,97,121])=false:=by
     match k,hk with
     |0,_=>rfl
     |1,_=>rfl
     |2,_=>rfl
    exact Kd h hw hl
   .exact Kd h rfl hl
   .exact Kd h rfl hl
   .exact aC hr h ho ha (ES hg) hl q0 hc
   .obtain⟨h1,h2⟩:=ER hg;exact aA hr h ho ho2 ha h1 h2 hl hc
def EM(w:AI)(g:Nat)(ps:List By):Prop:=w.1[g]?=some (.cells (Cb ps).toArray 9 (0,0))
theorem EM.cell{w:AI}(h:EM w g ps)(k:Nat)(hk:k<ps.length):w.cell? ⟨g,k,none⟩=some (.string ⟨ps[k].toArray⟩):=by
 simp[CR,show w.1[g]?=_ from h,Cb,hk]
theorem EM.lt{w:AI}(h:EM w g ps):g<w.1.size:=(È.1 h).1
theorem EM.bel{w w':AI}(h:EM w g ps)(hb:Bl w w'):EM w' g ps:=(hb.block g h.lt).trans h
theorem EM.fz{w:AI}(h:EM w g ps)(k:Nat):w.frozen? ⟨g,k,none⟩=false:=by
 simp[World.frozen?,show w.1[g]?=_ from h]
theorem EM.set{w:AI}{ks rest:List By}{t s:By}(h:EM w g ([]::(ks++t::rest))):EM (w.setCell ⟨g,1+ks.length,none⟩ (.string ⟨s.toArray⟩)) g ([]::((ks++[s])++rest)):=by
 have e:(Cb ([]::(ks++t::rest))).toArray.setIfInBounds (1+ks.length) (.string ⟨s.toArray⟩)=(Cb ([]::((ks++[s])++rest))).toArray:=by
  rw[List.setIfInBounds_toArray];congr 1;unfold Cb;grind
 unfold EM;rw[<-e];simp only[World.setCell,ğ];rw[if_pos trivial,show w.1[g]?=_ from h];rfl
theorem KT{t:By}{rest:List By}:rQ (t::rest)=match qC t with|none=>none|some k=>(rQ rest).map (k :: ·):=rfl
theorem LW:∀(l:By),∀t∈qJ l,t.length<=l.length
 |[],t,h=>by
  have:t=[]:=by simpa[qJ]using h
  grind
 |c::r,t,h=>by
  unfold qJ at h;split at h
  .rcases Ë.1 h with e|e
   .grind
   .exact G2 (LW r t e)
  .split at h
   .rename_i p ps hp;rcases Ë.1 h with e|e
    .rw[e];exact ŏ (LW r p ε)
    .exact G2 (LW r t ε)
   grind
def kT(o:Option (List By))(e:F2)(w':AI):Prop:=match o with
 |some ks=>∃v,e=.returned (.tuple #[v,.bool true])/\Dl w' v ks
 |none=>e=.returned (.tuple #[.slice none 0 0,.bool false])
def Il(lo:Nat)(o:Option (List By))(e:F2)(w':AI):Prop:=match o with
 |some ks=>∃v,e=.returned (.tuple #[v,.bool true])/\Dl w' v ks/\∀g,v.ownBlock=some g->lo<=g
 |none=>e=.returned (.tuple #[.slice none 0 0,.bool false])
theorem NU{l:By}{w:AI}(hn:l.length<=1048576)(hT:Aj w)(hP:Fq w)(hm:Mx w):
  CL AT 80 #[.string ⟨l.toArray⟩] w λe w'=>Il w.1.size (qX l) e w'/\Bl w w':=by
 have hv:=Ab (Vv l w hn hT);obtain⟨R,hR⟩:∃R,R=qX l:=⟨_,rfl⟩
 rw[<-hR];have HR:=Ab hR;have HM:=Ab hm;have HP:=Ab hP;clear hR hm hP hT;cases hva:I2 l with
 |false=>
  have HV:=Ab (show R=none by rw[HR.u];unfold qX;rw[hva];rfl);rw[hva]at hv;clear hva;go_enter func80,ntmps80;go_wp2_with fail;refine hv.u.mono ?_;rintro e w1⟨rfl,hb1⟩;go_wp2_with fail;go_ret2;exact⟨by rw[HV.u];rfl,hb1⟩
 |true=>
  have HV:=Ab (show R=match qJ l with|[]::r=>rQ r|_=>none by rw[HR.u];unfold qX;rw[hva];rfl);rw[hva]at hv;clear hva;go_enter func80,ntmps80;go_wp2_with fail;refine hv.u.mono ?_;rintro e w1⟨rfl,hb1⟩;have qd:=Ab hb1;have qq:=Ab (VO l w1 hn (HM.u.kept hb1));clear hb1 hv;go_wp2_with fail;refine qq.u.mono ?_;rintro e w2⟨rfl,rfl⟩;have HN:=Ab (Su l);have hcl:l.count 47<=l.length:=List.count_le_length;have h0:EM (w1.alloc (.cells (Cb (qJ l)).toArray 9)) w1.1.size (qJ l):=by
   show(w1.1.push _)[w1.1.size]?=_;simp
  have qo:=qd.u.alloc qd.u.size (.cells (Cb (qJ l)).toArray 9);have z1:w1.1.size<(w1.alloc (.cells (Cb (qJ l)).toArray 9)).1.size:=φ;have q8:=Ab qo;have hG:=qd.u.size;clear qo;have qn:=Ab (LW l);cases hpc:qJ l with
  |nil=>exact absurd hpc (LV l)
  |cons t0 q0=>
   rw[hpc]at h0 HV q8 HN qn;have qi:q0.length<=1048576:=by have:=HN.u;simp only[É]at this;omega
   generalize w1.alloc (.cells (Cb (t0::q0)).toArray 9)=w2 at*;have c0:=h0.cell 0 φ;simp only[ě]at c0;have H0:=Ab h0;clear hpc h0 qq;cases t0 with
   |cons a q=>
    have qt:=Ab (show R=none from HV.u);go_wp2_with fail;go_ret2;exact⟨by rw[qt.u];rfl,q8.u⟩
   |nil=>
    have qg:=Ab (show R=rQ q0 from HV.u);have qv:=Ab (show∀t∈q0,t.length<=1048576 from λt ht=>Ã (qn.u t (Ø _ ht)) hn);clear HV;simp only[É];by_cases qb:q0=[]
    .have qe:=Ab (show R=some [] by rw[qg.u,qb];rfl);subst qb;simp only[á];go_wp2_with fail;refine ø 1 ?_;rw[ď];go_wp2_with fail;go_ret2;exact⟨by rw[qe.u];exact⟨_,rfl,Å ⟨rfl,_,_,rfl,by unfold C6;omega⟩,λg h=>by cases h;exact hG⟩,q8.u⟩
    .obtain⟨N,hN⟩:∃N,N=q0.length:=⟨_,rfl⟩
     have hpos:0<N:=by rw[hN];exact Ē.2 qb
     have qu:=Ab hN;rw[<-hN];have z2:(N:Int)<=1048576:=ζ;have z3:(1:Int)<=(N:Int)+1:=ζ;clear hN qi HN qb;go_wp2_with fail;go_loopw [23] (λi wr=>∃(ks rest:List By),i=.int .i64 ks.length/\ks.length+rest.length=N/\Hid (EM wr w1.1.size ([]::(ks++rest)))/\Hid (Bl w wr)/\Hid (rQ q0=(rQ rest).map (ks ++ ·))/\Hid (∀t∈rest,t.length<=1048576))
      (λi _=>N-(Ft i).toNat)
     case atStart=>exact⟨[],q0,rfl,by have:=qu.u;simp;omega,H0,q8,by show rQ q0=_;cases rQ q0<;>rfl,qv⟩
     case round=>
      obtain⟨ks,rest,rfl,qh,q9,HB,HE,qm⟩:=hrel;cases rest with
      |nil=>
       have qy:ks.length=N:=by simpa using qh
       have qf:=Ab (show∀cap,N<=cap->cap<=C6->Il w.1.size R (.returned (.tuple #[.slice (some ⟨w1.1.size,1,none⟩) N cap,.bool true])) wr from λcap z0 qw=>by
        rw[qg.u,HE.u];refine⟨_,rfl,À ⟨_,1,cap,?_,?_,qw,q9.u.lt,λk hk=>?_⟩,λg h=>(by cases h;exact hG)⟩
        .simp[qy]
        .simp;omega
        .have hk2:k<ks.length:=by simpa using hk
         have h9:=q9.u.cell (1+k) ω;grind)
       have qj:¬((ks.length:Nat):Int)<(N:Int):=ζ;go_wp2_with fail;go_ret2;exact⟨qf.u _ ζ (by unfold C6;omega),HB.u⟩
      |cons t r=>
       have qj:((ks.length:Nat):Int)<(N:Int):=by simp only[É]at qh;omega
       have c1:wr.cell? ⟨w1.1.size,1+ks.length,none⟩=some (.string ⟨t.toArray⟩):=by
        rw[q9.u.cell (1+ks.length) ω];simp[G3 1 ks.length]
       have q4:=Ab (O5 (l:=t) (qm.u t φ) (HP.u.kept HB.u) (HM.u.kept HB.u));clear c0;go_wp2_with fail;refine q4.u.mono ?_;rintro e w3⟨q7,hb3⟩;have qk:=Ab (HB.u.trans (hb3.mono HB.u.size));have q5:=Ab (q9.u.bel hb3);clear hb3 q4 c1;cases hun:qC t with
       |none=>
        rw[hun]at q7;have q6:e=.returned (.tuple #[.string ⟨#[]⟩,.bool false]):=q7;subst q6;have qe:=Ab (show R=none by rw[qg.u,HE.u,KT,hun];rfl);clear q7 hun;go_wp2_with fail;go_ret2;exact⟨by rw[qe.u];rfl,qk.u⟩
       |some s=>
        rw[hun]at q7;have q6:e=.returned (.tuple #[.string ⟨s.toArray⟩,.bool true]):=q7;subst q6;have qr:=Ab (show rQ q0=(rQ r).map ((ks++[s]) ++ ·) by
         rw[HE.u,KT,hun];cases rQ r<;>simp)
        have fz:=q5.u.fz (1+ks.length);have c3:w3.cell? ⟨w1.1.size,1+ks.length,none⟩=some (.string ⟨t.toArray⟩):=by
         rw[q5.u.cell (1+ks.length) ω];simp[G3 1 ks.length]
        clear q7 hun;go_wp2_with fail;refine⟨⟨ks++[s],r,φ,?_,q5.u.set,qk.u.setCell (p:=⟨w1.1.size,1+ks.length,none⟩) hG _,qr,λt' qz=>qm.u t' (by simp[qz])⟩,?_⟩
        .grind
        .simp only[É]at qh;simp only[Ft];omega
theorem NV{l:By}{w:AI}(hn:l.length<=1048576)(hT:Aj w)(hP:Fq w)(hm:Mx w):
  CL AT 80 #[.string ⟨l.toArray⟩] w λe w'=>kT (qX l) e w'/\Bl w w':=by
 refine(NU hn hT hP hm).mono ?_;rintro e w' ⟨h,hb⟩;refine⟨?_,hb⟩;cases ho:qX l with
 |none=>rw[ho]at h;exact h
 |some ks=>
  rw[ho]at h;obtain⟨v,h1,h2,_⟩:=h;exact⟨v,h1,h2⟩
theorem Xe{F:Nat->Prop}{w:AI}{v:Bs}{dd xx lv:Int}{d e:pL}(hg:pU dd xx top lv d)(hl:(pP top d).length<=80000)(hf:Ag d l=.ok e)(h:Na F w v e):
  ∃M,Rep M F w v e/\pP M e=pP top e/\(pP M e).length<=80000:=by
 obtain⟨f',q0,h1,h2,h3⟩:=S5 l top lv d e hg hf;obtain⟨f,h⟩:=h;refine⟨max f top,h.up (IN _ _),?_,?_⟩
 .rw[Ew f' _ q0 e h2 ζ,Ew f' _ q0 e h2 h1]
 .rw[Ew f' _ q0 e h2 ζ];omega
theorem Lm:∀{l:List By}{d:pL}{c:Nat},Ag d l=.error c->c=11\/c=12
 |[],d,c,h=>by cases h
 |t::r,d,c,h=>by
  unfold Ag at h;split at h
  .exact Lm h
  .rename_i c2 hc;cases h;exact Dn hc
theorem WY:Vj:=by
 intro S d e n p v F s w hn hS hD hT;obtain⟨D,R,wp,rfl,qm⟩:=hD;have q9:Bl w (w.alloc (.cells #[InB 0,InB 0,.string ⟨#[]⟩] 46)):=(Â _ _).alloc (Á _) _;have q7:=hT.below (q9.mono hT.ng);have q0:=Ab (NV hn q7 q7.pesc q7.mx);have qi:=Ab (qm.bel q9);have HS:=Ab (hS.low q9);have HT:=Ab q7;have HA:=Ab (AB.new w);have qe:=Ab q9;have qw:=hT.ng;have qt:=Ab (λks (h:qX s=some ks)=>Gx h);obtain⟨RR,qh⟩:∃RR,RR=tG v.1 s:=⟨_,rfl⟩
 rw[<-qh];have qf:=Ab qh;clear hT hS qm q7 q9 qh;go_enter func57,ntmps57;go_wp2_with fail;refine q0.u.mono ?_;rintro x w1⟨he,hb1⟩;have A1:=Ab (HA.u.low hb1);have S1:=Ab (HS.u.low hb1);have D1:=Ab (qi.u.bel hb1);have T1:=Ab (HT.u.below (hb1.mono HT.u.ng));have q8:=qe.u.trans (hb1.mono qe.u.size);have q5:=Ab q8;clear hb1 q8 HA HS qi qe HT q0;cases htk:qX s with
 |none=>
  rw[htk]at he;have qv:x=.returned (.tuple #[.slice none 0 0,.bool false]):=he;subst qv;have HE:=Ab (show RR=(9,0,[]) by rw[qf.u];unfold tG;rw[htk]);clear he htk;go_wp2_with fail;refine(BL 9 _).mono ?_;rintro x w2⟨rfl,hb2⟩;have a2:=A1.u.low hb2;have g0:=a2.c0;have g1:=a2.c1;have g2:=a2.c2;have z:=a2.fz;have q6:=Ab (q5.u.trans (hb2.mono q5.u.size));clear a2 hb2;unfold AC;go_wp2_with fail;refine Ì (v:=AC 9 []) (by simp[CH,results57,go_sem,AC,g0,g1,g2]) rfl ⟨?_,?_⟩
  .rw[HE.u];rfl
  .exact An (An (An q6.u _ 0 ζ _) _ 1 ζ _) _ 2 ζ _
 |some ks=>
  rw[htk]at he;obtain⟨pv,rfl,qq⟩:=he;have qj:=Ab qq;have qg:=Ab htk;clear qq htk;have d0:=S1.u.c3;go_wp2_with fail;refine(Ko D1.u).mono ?_;rintro x w2⟨rfl,hb2⟩;have A2:=Ab (A1.u.low hb2);have D2:=Ab (D1.u.bel hb2);have T2:=Ab (T1.u.below (hb2.mono T1.u.ng));have P2:=Ab (qj.u.bel hb2);have q6:=Ab (q5.u.trans (hb2.mono q5.u.size));clear hb2 A1 D1 T1 qj q5 d0;go_wp2_with fail;have qo:=qt.u ks qg.u;refine(QR (F:=F) (d:=v.1) ε (Ã qo.1 hn) T2.u.rng ⟨top,D2.u.rep⟩ P2.u).mono ?_;rintro x w3⟨ho,hb3⟩;have A3:=Ab (A2.u.low hb3);have D3:=Ab (D2.u.bel hb3);have T3:=Ab (T2.u.below (hb3.mono T2.u.ng));have qb:=Ab (q6.u.trans (hb3.mono q6.u.size));clear hb3 A2 D2 T2 P2 q6 qo;cases hfd:Ag v.1 ks with
  |error c=>
   rw[hfd]at ho;have ho2:x=.returned (.tuple #[.pointer none,InB c]):=ho;subst ho2;have HE:=Ab (show RR=(c,0,[]) by rw[qf.u];unfold tG;rw[qg.u];grind);have qu:c=11\/c=12:=Lm hfd;have e1:((c:Int)==0)=false:=ε;have e2:((c:Int)!=0)=true:=ε;clear ho hfd qu;go_wp2_with fail;refine(BL c _).mono ?_;rintro x w4⟨rfl,hb4⟩;have a2:=A3.u.low hb4;have g0:=a2.c0;have g1:=a2.c1;have g2:=a2.c2;have z:=a2.fz;have qd:=Ab (qb.u.trans (hb4.mono qb.u.size));clear a2 hb4;unfold AC;go_wp2_with fail;refine Ì (v:=AC c []) (by simp[CH,results57,go_sem,AC,g0,g1,g2]) rfl ⟨?_,?_⟩
   .rw[HE.u];rfl
   .exact An (An (An qd.u _ 0 ζ _) _ 1 ζ _) _ 2 ζ _
  |ok y=>
   rw[hfd]at ho;obtain⟨yv,rfl,hy⟩:=ho;have HE:=Ab (show RR=(0,0,pP top y) by rw[qf.u];unfold tG;rw[qg.u];grind);have qn:=D3.u.gd;obtain⟨M,hM,qk,qr⟩:=Xe qn D3.u.len hfd hy;have q4:=Ab (EC hM T3.u ζ);rw[qk]at q4;clear hfd hy qn hM qk qr;go_wp2_with fail;refine q4.u.mono ?_;rintro x w4⟨rfl,hb4⟩;have a2:=A3.u.low hb4;have g0:=a2.c0;have g1:=a2.c1;have g2:=a2.c2;have z:=a2.fz;have qd:=Ab (qb.u.trans (hb4.mono qb.u.size));clear a2 hb4 q4;go_wp2_with fail;refine Ì (v:=AC 0 (pP top y)) (by simp[CH,results57,go_sem,AC,g0,g1,g2]) rfl ⟨?_,?_⟩
   .rw[HE.u];rfl
   .exact An (An (An qd.u _ 0 ζ _) _ 1 ζ _) _ 2 ζ _
theorem O9{d e:Int}{v:pL}{s t:By}(h:qX s=none):tK d e v s t=9:=by unfold tK;rw[h]
theorem RM{d e:Int}{v:pL}{s t:By}{ks:List By}(h:qX s=some ks)(h2:qB t d e=(c,none)):tK d e v s t=c:=by unfold tK;grind
theorem RL{d e:Int}{v:pL}{s t:By}{ks:List By}{x:pL}(h:qX s=some ks)(h2:qB t d e=(0,some x))(h3:Ag v ks=.error c):tK d e v s t=c:=by unfold tK;grind
theorem Vy{d e:Int}{v:pL}{s t:By}{ks:List By}{x y:pL}(h:qX s=some ks)(h2:qB t d e=(0,some x))(h3:Ag v ks=.ok y):tK d e v s t=if veq y x=true then 0 else 14:=by unfold tK;grind
theorem YH{f:Nat}{F F':Nat->Prop}{w:AI}{v v':Bs}{a b:pL}(h:Rep f F w v a)(h':Rep top F' w v' b):CB 82 #[v,v'] w (.bool (veq a b)):=
 Lx (max f top) F F' w v v' a b (h.up (IN _ _)) (h'.up (Nat.le_max_right _ _))
theorem RY:QL:=by
 intro S d e n p v F s t w hn hS hD hT;obtain⟨D,R,wp,rfl,qu⟩:=hD;have qf:Bl w (w.alloc (.cells #[.int .i64 0,.int .i64 0,.string ⟨#[]⟩] 46)):=(Â _ _).alloc (Á _) _;have qd:=hT.below (qf.mono hT.ng);have q5:=Ab (NV hn qd qd.pesc qd.mx);have qq:=Ab (qu.bel qf);have HS:=Ab (hS.low qf);have HT:=Ab qd;have HA:=Ab (AB.new w);have qk:=Ab qf;have z3:=hT.ng;have qz:=Ab (λks (h:qX s=some ks)=>Gx h);obtain⟨RR,qn⟩:∃RR,RR=tK d e v.1 s t:=⟨_,rfl⟩
 rw[<-qn];have qi:=Ab qn;clear hT hS qu qd qf qn;go_enter func58,ntmps58;go_wp2_with fail;refine q5.u.mono ?_;rintro x w1⟨he,hb1⟩;have A1:=Ab (HA.u.low hb1);have S1:=Ab (HS.u.low hb1);have D1:=Ab (qq.u.bel hb1);have T1:=Ab (HT.u.below (hb1.mono HT.u.ng));have qe:=qk.u.trans (hb1.mono qk.u.size);have q7:=Ab qe;clear hb1 qe HA HS qq qk HT q5;cases htk:qX s with
 |none=>
  rw[htk]at he;have z2:x=.returned (.tuple #[.slice none 0 0,.bool false]):=he;subst z2;have HE:=Ab (show RR=9 by rw[qi.u,O9 htk]);clear he htk;go_wp2_with fail;refine(BL 9 _).mono ?_;rintro x w2⟨rfl,hb2⟩;have a2:=A1.u.low hb2;have g0:=a2.c0;have g1:=a2.c1;have g2:=a2.c2;have z:=a2.fz;have q6:=Ab (q7.u.trans (hb2.mono q7.u.size));clear a2 hb2;unfold AC;go_wp2_with fail;refine Ì (v:=AC 9 []) (by simp[CH,results58,go_sem,AC,g0,g1,g2]) rfl ⟨?_,?_⟩
  .rw[HE.u];rfl
  .exact An (An (An q6.u _ 0 ζ _) _ 1 ζ _) _ 2 ζ _
 |some ks=>
  rw[htk]at he;obtain⟨pv,rfl,qw⟩:=he;have qr:=Ab qw;have qj:=Ab htk;clear qw htk;go_wp2_with fail;refine(VM t S1.u T1.u).mono ?_;rintro x w2⟨p2,c,rfl,hb2,z1⟩;have A2:=Ab (A1.u.low hb2);have S2:=Ab (S1.u.low hb2);have D2:=Ab (D1.u.bel hb2);have T2:=Ab (T1.u.below (hb2.mono T1.u.ng));have P2:=Ab (qr.u.bel hb2);have q6:=Ab (q7.u.trans (hb2.mono q7.u.size));clear hb2 A1 D1 T1 S1 qr q7;rcases z1 with⟨hpos,qg⟩|⟨rfl,xv,qg,qh⟩
  .have HE:=Ab (show RR=c by rw[qi.u,RM qj.u qg]);have e0:((c:Int)!=0)=true:=ω;clear qg hpos;go_wp2_with fail;refine(BL c _).mono ?_;rintro x w3⟨rfl,hb3⟩;have a2:=A2.u.low hb3;have g0:=a2.c0;have g1:=a2.c1;have g2:=a2.c2;have z:=a2.fz;have q8:=Ab (q6.u.trans (hb3.mono q6.u.size));clear a2 hb3;unfold AC;go_wp2_with fail;refine Ì (v:=AC c []) (by simp[CH,results58,go_sem,AC,g0,g1,g2]) rfl ⟨?_,?_⟩
   .rw[HE.u];rfl
   .exact An (An (An q8.u _ 0 ζ _) _ 1 ζ _) _ 2 ζ _
  have qt:=Ab qg;have HX:=Ab qh;clear qg qh;have d0:=S2.u.c3;go_wp2_with fail;refine(Ko D2.u).mono ?_;rintro x w3⟨rfl,hb3⟩;have A3:=Ab (A2.u.low hb3);have D3:=Ab (D2.u.bel hb3);have T3:=Ab (T2.u.below (hb3.mono T2.u.ng));have P3:=Ab (P2.u.bel hb3);have X3:=Ab (HX.u.bel hb3);have q8:=Ab (q6.u.trans (hb3.mono q6.u.size));clear hb3 A2 D2 T2 P2 HX q6 d0 S2;go_wp2_with fail;have qv:=qz.u ks qj.u;refine(QR (F:=F) (d:=v.1) ε (Ã qv.1 hn) T3.u.rng ⟨top,D3.u.rep⟩ P3.u).mono ?_;rintro x w4⟨ho,hb4⟩;have A4:=Ab (A3.u.low hb4);have T4:=Ab (T3.u.below (hb4.mono T3.u.ng));have X4:=Ab (X3.u.bel hb4);have q9:=Ab (q8.u.trans (hb4.mono q8.u.size));clear hb4 A3 D3 T3 P3 q8 X3 qv;cases hfd:Ag v.1 ks with
  |error c=>
   rw[hfd]at ho;have ho2:x=.returned (.tuple #[.pointer none,.int .i64 c]):=ho;subst ho2;have HE:=Ab (show RR=c by rw[qi.u,RL qj.u qt.u hfd]);have z0:c=11\/c=12:=Lm hfd;have e1:((c:Int)==0)=false:=ε;have e2:((c:Int)!=0)=true:=ε;clear ho hfd z0;go_wp2_with fail;refine(BL c _).mono ?_;rintro x w5⟨rfl,q4⟩;have a2:=A4.u.low q4;have g0:=a2.c0;have g1:=a2.c1;have g2:=a2.c2;have z:=a2.fz;have qb:=Ab (q9.u.trans (q4.mono q9.u.size));clear a2 q4;unfold AC;go_wp2_with fail;refine Ì (v:=AC c []) (by simp[CH,results58,go_sem,AC,g0,g1,g2]) rfl ⟨?_,?_⟩
   .rw[HE.u];rfl
   .exact An (An (An qb.u _ 0 ζ _) _ 1 ζ _) _ 2 ζ _
  |ok y=>
   rw[hfd]at ho;obtain⟨yv,rfl,f,hy⟩:=ho;have HE:=Ab (show RR=if veq y xv=true then 0 else 14 by rw[qi.u,Vy qj.u qt.u hfd]);have q0:=Ab (YH hy X4.u);clear hfd hy;go_wp2_with fail;refine q0.u.mono ?_;rintro x w5⟨rfl,q4⟩;have A5:=Ab (A4.u.low q4);have qb:=Ab (q9.u.trans (q4.mono q9.u.size));have T5:=Ab (T4.u.below (q4.mono T4.u.ng));clear q4 A4 q9 T4 q0 X4;cases hq:veq y xv with
   |false=>
    have qm:=Ab (show RR=14 by rw[HE.u,hq,if_neg η]);clear hq HE;go_wp2_with fail;refine(BL 14 _).mono ?_;rintro x w6⟨rfl,qo⟩;have a2:=A5.u.low qo;have g0:=a2.c0;have g1:=a2.c1;have g2:=a2.c2;have z:=a2.fz;have qy:=Ab (qb.u.trans (qo.mono qb.u.size));clear a2 qo;unfold AC;go_wp2_with fail;refine Ì (v:=AC 14 []) (by simp[CH,results58,go_sem,AC,g0,g1,g2]) rfl ⟨?_,?_⟩
    .rw[qm.u];rfl
    .exact An (An (An qy.u _ 0 ζ _) _ 1 ζ _) _ 2 ζ _
   |true=>
    have qm:=Ab (show RR=0 by rw[HE.u,hq,if_pos rfl]);clear hq HE;have a2:=A5.u;have g0:=a2.c0;have g1:=a2.c1;have g2:=a2.c2;have z:=a2.fz;clear a2;go_wp2_with fail;refine Ì (v:=AC 0 []) (by simp[CH,results58,go_sem,AC,g0,g1,g2]) rfl ⟨?_,?_⟩
    .rw[qm.u];rfl
    .exact An (An (An qb.u _ 0 ζ _) _ 1 ζ _) _ 2 ζ _
theorem MB:∀(f g:Nat) (o:O),qM f o->f<=g->pP g (pO f o)=pP f (pO f o)
 |0,_,_,h,_=>h.elim
 |f+1,0,_,_,hg=>ζ
 |f+1,g+1,o,h,hg=>by
  rcases h with⟨k,_,rfl⟩|⟨n,rfl,_⟩|⟨s,rfl⟩|⟨es,rfl,h⟩|⟨es,rfl,hnd,h⟩
  .rfl
  .rfl
  .rfl
  .have e:pO (f+1) (rK es)=Ak (es.map (pO f)):=rfl;rw[e,BH,BH,Ý,Ý,ä λe he=>show(pP g ∘ pO f) e=(pP f ∘ pO f) e from MB f g e (h e he) ζ]
  .obtain⟨E,e1,e2,e3⟩:=Hh f es hnd;rw[e1,EW,EW];rw[ä λk hk=>show(Ai k++58::pP g (rW E k))=(Ai k++58::pP f (rW E k))from by
    have hk2:=e2.mem_iff.1 ((ĕ _ _).mem_iff.1 hk);obtain⟨p,hp,rfl⟩:=Ò.1 hk2;rw[e3 p hp,MB f g p.2 (h p hp) ζ]]
theorem goO.up1:∀{f:Nat}{o:O},qM f o->qM (f+1) o
 |0,_,h=>h.elim
 |f+1,o,h=>by
  rcases h with h|h|h|⟨es,h1,h⟩|⟨es,h1,hnd,h⟩
  .exact Å h
  .exact À (Å h)
  .exact À (À (Å h))
  .exact À (À (À (Å ⟨es,h1,λe he=>goO.up1 (h e he)⟩)))
  .exact À (À (À (À ⟨es,h1,hnd,λp hp=>goO.up1 (h p hp)⟩)))
theorem goO.up{o:O}{f:Nat}(h:qM f o)(hg:f<=g):qM g o:=by
 induction g with
 |zero=>grind
 |succ g ih=>
  by_cases e:f=g+1
  .grind
  .exact goO.up1 (ih ζ)
theorem Ar.up1:∀{f:Nat}{F:Nat->Prop}{w:AI}{v:Bs}{o:O},Ar f F w v o->Ar (f+1) F w v o:=by
 intro f;induction f with
 |zero=>intro F w v o h;exact h.elim
 |succ f ih=>
  intro F w v o h;obtain⟨b,hv,hb,h⟩:=h;rcases h with h|h|h|⟨es,sl,ps,hd,h,ho,hs,ha⟩|⟨es,kl,sl,ps,hd,h,ho,hs,ho2,hs2,ha⟩
  .exact⟨b,hv,hb,Å h⟩
  .exact⟨b,hv,hb,À (Å h)⟩
  .exact⟨b,hv,hb,ε⟩
  .exact⟨b,hv,hb,À (À (À (Å ⟨es,sl,ps,hd,h,ho,hs,ha.mono λ_ _ h=>ih h⟩)))⟩
  .exact⟨b,hv,hb,À (À (À (À ⟨es,kl,sl,ps,hd,h,ho,hs,ho2,hs2,ha.mono λ_ _ h=>ih h⟩)))⟩
theorem Ar.up{F:Nat->Prop}{w:AI}{v:Bs}{o:O}{f:Nat}(h:Ar f F w v o)(hg:f<=g):Ar g F w v o:=by
 induction g with
 |zero=>grind
 |succ g ih=>
  by_cases e:f=g+1
  .grind
  .exact (ih ζ).up1
theorem Ul{f:Nat}{o y:O}{t:By}(h:qM (f+1) o)(hc:uJ o t=.ok y):(pP f (pO f y)).length<=(pP (f+1) (pO (f+1) o)).length:=by
 rcases h with⟨k,_,rfl⟩|⟨n,rfl,_⟩|⟨s,rfl⟩|⟨es,rfl,h⟩|⟨es,rfl,hnd,h⟩
 .have:(HY 11:Except Nat O)=.ok y:=hc;cases this
 .have:(HY 11:Except Nat O)=.ok y:=hc;cases this
 .have:(HY 11:Except Nat O)=.ok y:=hc;cases this
 .unfold uJ rK at hc;simp only at hc;split at hc
  .cases hc
  .split at hc
   .rename_i x hx;cases hc;exact Tu (ñ hx)
   .cases hc
 .rw[IY]at hc;split at hc
  .rename_i x hx;cases hc;exact SE hnd (Cf hx)
  .cases hc
theorem NY:∀(l:List By) (f f':Nat) (o y:O),qM f o->sR o l=.ok y->f'+l.length=f->(pP f' (pO f' y)).length<=(pP f (pO f o)).length
 |[],f,f',o,y,_,hf,he=>by
  grind [sR,pP,pO]
 |t::r,0,_,o,y,h,_,_=>h.elim
 |t::r,f+1,f',o,y,h,hf,he=>by
  rcases N4 (t:=t) h with⟨z,h1,h2,_⟩|⟨c,h1,_⟩
  .have e1:sR z r=.ok y:=by
    grind [sR,pP,pO]
   exact Ã (NY r f f' z y h2 e1 ε) (Ul h h1)
  grind [sR,pP,pO]
theorem Hz(s:By)(hn:s.length<=8000000000000)(w:AI):CL AT 68 #[.string ⟨s.toArray⟩] w λe w'=>FG w.1.size (qX s) e w'/\Bl w w':=by
 cases s with
 |nil=>
  have e:qX []=some []:=θ;rw[e];exact Q7 w
 |cons c r=>exact Pp ⟨by rw[AD];omega,Ď _,φ⟩ (by rw[AD];exact hn) w
theorem WX{v:pL}{s:By}(h:qX s=none):tG v s=(9,0,[]):=by unfold tG;rw[h]
theorem ZZ{v:pL}{s:By}{ks:List By}(h:qX s=some ks)(h2:Ag v ks=.error c):tG v s=(c,0,[]):=by unfold tG;grind
theorem gU{v y:pL}{s:By}{ks:List By}(h:qX s=some ks)(h2:Ag v ks=.ok y):tG v s=(0,0,pP top y):=by unfold tG;grind
theorem YX{E:Nat}{d x n:Int}{p:Addr}{q:Bs}{w:AI}{F:Nat->Prop}{o:O}(s:By)(hn:s.length<=1048576)(h:EB w E d x n (.pointer (some p)) q)(qd:Ar top F w (.pointer (some p)) o)(qm:qM top o)(hl:(pP top (pO top o)).length<=80000)(hT:Aj w):
  CB 47 #[PtB E,.string ⟨s.toArray⟩] w (Ay (tG (pO top o) s)):=by
 have q9:Bl w (w.alloc (.cells #[InB 0,InB 0,.string ⟨#[]⟩] 46)):=(Â _ _).alloc (Á _) _;obtain⟨RR,qj⟩:∃RR,RR=tG (pO top o) s:=⟨_,rfl⟩
 rw[<-qj];have qi:=Ab qj;have q8:=Ab (Hz s ζ (w.alloc (.cells #[InB 0,InB 0,.string ⟨#[]⟩] 46)));have qq:=Ab (λks (h:qX s=some ks)=>Gx h);have HE:=Ab (h.low q9);have q7:=Ab (qd.below q9);have qh:=Ab qm;have HL:=Ab hl;have HT:=Ab (hT.below (q9.mono hT.ng));have HA:=Ab (AB.new w);have qg:=Ab q9;clear h qd qm hl hT q9 qj;go_enter func47,ntmps47;go_wp2_with fail;refine q8.u.mono ?_;rintro e w1⟨he,hb1⟩;have A1:=Ab (HA.u.low hb1);have E1:=Ab (HE.u.low hb1);have R1:=Ab (q7.u.below hb1);have T1:=Ab (HT.u.below (hb1.mono HT.u.ng));have q6:=Ab (qg.u.trans (hb1.mono qg.u.size));clear hb1 HA HE q7 HT qg q8;cases htk:qX s with
 |none=>
  rw[htk]at he;have qr:e=.returned (.tuple #[.slice none 0 0,.bool false]):=he;subst qr;have HF:=Ab (show RR=(9,0,[]) by rw[qi.u,WX htk]);clear he htk;go_wp2_with fail;refine(Ec 9 _).mono ?_;rintro e w2⟨rfl,hb2⟩;have a2:=A1.u.low hb2;have g0:=a2.c0;have g1:=a2.c1;have g2:=a2.c2;have z:=a2.fz;have qo:=Ab (q6.u.trans (hb2.mono q6.u.size));clear a2 hb2;unfold AC;go_wp2_with fail;refine Ì (v:=AC 9 []) (by simp[CH,results47,go_sem,AC,g0,g1,g2]) rfl ⟨?_,?_⟩
  .rw[HF.u];rfl
  .exact An (An (An qo.u _ 0 ζ _) _ 1 ζ _) _ 2 ζ _
 |some ks=>
  rw[htk]at he;obtain⟨lv,rfl,qn,_⟩:=he;have q8:=Ab htk;have qt:=qq.u ks htk;have e3:=E1.u.c3;have q0:=Ab (Hf (F:=F) ks ε top o w1 (.pointer (some p)) lv R1.u qh.u (Ã HL.u η) qn);clear htk qn qt;go_wp2_with fail;refine q0.u.mono ?_;rintro e w3⟨ho,hb3⟩;have A3:=Ab (A1.u.low hb3);have T3:=Ab (T1.u.below (hb3.mono T1.u.ng));have qe:=Ab (q6.u.trans (hb3.mono q6.u.size));clear hb3 A1 T1 R1 E1 q6 e3 q0;rcases I1 ks top o qh.u with⟨y,f',h1,h2,h3,h4⟩|⟨c,hc,h1,h2⟩
  .rw[h1]at ho;obtain⟨u,f2,rfl,hf2,q4⟩:=ho;obtain rfl:f2=f':=ζ;have HF:=Ab (show RR=(0,0,pP top (pO f2 y)) by rw[qi.u,gU q8.u h4]);have qb:=NY ks top f2 o y qh.u h1 h2;have qk:pP top (pO f2 y)=pP f2 (pO f2 y):=MB f2 top y h3 ζ;have q5:=Ab (GY f2 F w3 u y q4 h3 T3.u (Ã qb (Ã HL.u η)));rw[<-qk]at q5;generalize pP top (pO f2 y)=tx at*;clear h1 h2 h3 h4 qb qk q4 hf2;go_wp2_with fail;refine q5.u.mono ?_;rintro e w4⟨rfl,hb4⟩;have a2:=A3.u.low hb4;have g0:=a2.c0;have g1:=a2.c1;have g2:=a2.c2;have z:=a2.fz;have qf:=Ab (qe.u.trans (hb4.mono qe.u.size));clear a2 hb4 q5;go_wp2_with fail;refine Ì (v:=AC 0 tx) (by simp[CH,results47,go_sem,AC,g0,g1,g2]) rfl ⟨?_,?_⟩
   .rw[HF.u];rfl
   .exact An (An (An qf.u _ 0 ζ _) _ 1 ζ _) _ 2 ζ _
  .rw[h1]at ho;have ho2:e=.returned (.tuple #[.pointer none,InB c]):=ho;subst ho2;have HF:=Ab (show RR=(c,0,[]) by rw[qi.u,ZZ q8.u h2]);have e2:((c:Int)!=0)=true:=ε;clear ho h1 h2 hc;go_wp2_with fail;refine(Ec c _).mono ?_;rintro e w4⟨rfl,hb4⟩;have a2:=A3.u.low hb4;have g0:=a2.c0;have g1:=a2.c1;have g2:=a2.c2;have z:=a2.fz;have qf:=Ab (qe.u.trans (hb4.mono qe.u.size));clear a2 hb4;unfold AC;go_wp2_with fail;refine Ì (v:=AC c []) (by simp[CH,results47,go_sem,AC,g0,g1,g2]) rfl ⟨?_,?_⟩
   .rw[HF.u];rfl
   .exact An (An (An qf.u _ 0 ζ _) _ 1 ζ _) _ 2 ζ _
theorem V6(L:List (Lit×pL)):∀E:List (Lit×pL),(E++L).Pairwise (λp q=>p.1≠q.1)->(∀p∈E++L,∃s,p.1=.string s)->E.Pairwise (λp q=>p.1.before q.1=true) ->
  ∃E',sZ (.map E) L=.map E'/\E'.Perm (E++L)/\E'.Pairwise (λp q=>p.1.before q.1=true):=by
 induction L with
 |nil=>intro E _ _ hr;exact⟨E,rfl,φ,hr⟩
 |cons p r ih=>
  intro E h hk hr;have q5:(E++p::r).Perm (p::(E++r)):=List.perm_middle;have q7:(p::(E++r)).Pairwise (λp q=>p.1≠q.1):=ε;have hne:∀q∈E,q.1.sameKey p.1=false:=λq hq=>sameKey_ne ε;have hf:(E.filter λq=>!q.1.sameKey p.1)=E:=Ŀ.2 ε;have q6:I8 (.map E) p.1 p.2=.map (BY (p.1,p.2) E):=by
   show DD (BY (p.1,p.2) (E.filter λq=>!q.1.sameKey p.1))=_;rw[hf]
  have q4:(BY (p.1,p.2) E).Perm (p::E):=ö _ _;have h2:(BY (p.1,p.2) E++r).Perm (E++p::r):=((q4.append_right r).trans (List.Perm.refl _)).trans q5.symm;have q0:(BY (p.1,p.2) E).Pairwise (λp q=>p.1.before q.1=true):=
   FX (hk p φ) (λq hq=>hk q (by simp[hq])) ε hr
  obtain⟨E',e1,e2,e3⟩:=ih (BY (p.1,p.2) E) (h2.symm.pairwise h (λhab=>ň hab)) ε q0;exact⟨E',by show sZ (I8 (.map E) p.1 p.2) r=_;grind,e2.trans h2,e3⟩
theorem CG(f:Nat)(es:Ms)(hnd:(es.map (·.1)).Nodup):∃E,pO (f+1) (qF es)=Ap E/\E.Perm (es.map λp=>(AS p.1,pO f p.2))/\E.Pairwise (λp q=>p.1≠q.1)/\Maps.Canon (.map E:D6 Unit):=by
 obtain⟨L,hL⟩:∃L:List (Lit×pL),L=es.map λp=>(AS p.1,pO f p.2):=⟨_,rfl⟩
 have q4:L.Pairwise (λp q=>p.1≠q.1):=by
  grind
 have q0:∀p∈L,∃s,p.1=.string s:=ε;obtain⟨E,e1,e2,e3⟩:=V6 L [] q4 q0 Ī;rw[Ù]at e2;have e0:pO (f+1) (qF es)=sZ (.map []) L:=by
  show sZ (Ap []) ((qK es).map λp=>(p.1,pO f p.2))=_;rw[hL];unfold qK;rw[Ý];rfl
 refine⟨E,e0.trans e1,ε,e2.symm.pairwise q4 (λhab=>ň hab),E,rfl,e3,λp hp=>?_⟩;obtain⟨s,hs⟩:=q0 p (e2.mem_iff.1 hp);rw[hs];trivial
theorem KG{f:Nat}{es:Ms}(hp:E.Perm (es.map λp=>(AS p.1,pO f p.2)))(hd:E.Pairwise (λp q=>p.1≠q.1)){k:By}{y:O}(h:(k,y)∈es):
  D9 (.map E:D6 Unit) (.string k)=true/\(DD E).atKey (.string k) .nil=pO f y:=by
 have hin:(AS k,pO f y)∈E:=ε;exact⟨è.2 ⟨_,hin,î trivial⟩,Ă .nil trivial hd hin⟩
theorem SZ{f:Nat}{es:Ms}(hp:E.Perm (es.map λp=>(AS p.1,pO f p.2))){k:Lit}(h:D9 (.map E:D6 Unit) k=true):∃p∈es,k=.string p.1:=by
 obtain⟨q,hq,hs⟩:=è.1 (show E.any (λp=>p.1.sameKey k)=true from h);have e:=ć hs;grind
theorem Wm{f:Nat}{es:Ms}(hn:(es.map (·.1)).Nodup)(q7:(es'.map (·.1)).Nodup)(hl:es.length=es'.length)(h:∀p∈es,∃y,qU p.1 es'=some y/\pO f p.2=pO f y):
  pO (f+1) (qF es)=pO (f+1) (qF es'):=by
 obtain⟨E,e1,e2,e3,e4⟩:=CG f es hn;obtain⟨E',q4,q0,q5,q6⟩:=CG f es' q7;rw[e1,q4];refine PF e4 q6 (by have:=e2.length_eq;have:=q0.length_eq;grind) λk hk=>?_;obtain⟨p,q8,rfl⟩:=SZ e2 hk;obtain⟨y,hy,he⟩:=h p q8;obtain⟨a1,a2⟩:=KG e2 e3 ζ;obtain⟨b1,b2⟩:=KG q0 q5 (Cf hy);grind
theorem Wn{f:Nat}{es:Ms}(hn:(es.map (·.1)).Nodup)(q6:(es'.map (·.1)).Nodup){p:By×O}(hp:p∈es)(h:∀y,qU p.1 es'=some y->pO f p.2≠pO f y):
  pO (f+1) (qF es)≠pO (f+1) (qF es'):=by
 obtain⟨E,e1,e2,e3,e4⟩:=CG f es hn;obtain⟨E',q4,q0,q5,q7⟩:=CG f es' q6;rw[e1,q4];obtain⟨a1,a2⟩:=KG e2 e3 ζ;refine PG a1 λhh=>?_;obtain⟨q,hq,hk⟩:=SZ q0 hh;have hk2:p.1=q.1:=D0 hk;cases hm:qU p.1 es' with
 |none=>exact absurd hk2.symm (GE hm q hq)
 |some y=>
  obtain⟨b1,b2⟩:=KG q0 q5 (Cf hm);grind
theorem Y9{f:Nat}{es:Ms}(hn:(es.map (·.1)).Nodup)(q5:(es'.map (·.1)).Nodup)(h:es.length≠es'.length):pO (f+1) (qF es)≠pO (f+1) (qF es'):=by
 obtain⟨E,e1,e2,e3,e4⟩:=CG f es hn;obtain⟨E',q0,q4,q6,q7⟩:=CG f es' q5;rw[e1,q0];intro e;unfold Ap at e;cases e;have:=e2.length_eq;have:=q4.length_eq;grind
section
variable{w:AI}{D k:Nat}{pa fa y wp:Option Addr}{pl pc fl fc:Nat}
theorem Rw{s:By}(hs:s.length<=8796093022208)(hW:∀w1,Bl w w1->CB 56 #[PtB D] w1 (.pointer wp))(hC:∀w1,Bl w w1->CB 55 #[.pointer wp] w1 (.string ⟨s.toArray⟩)):
  CB 121 #[PtB D] w (.bool (decide (20000<s.length))):=by
 have HW:=Ab hW;have HC:=Ab hC;obtain⟨n,hn⟩:∃n:Nat,n=s.length:=⟨_,rfl⟩
 have h1:decide ((20000:Int)<(n:Int))=decide (20000<n):=decide_eq_decide.2 ζ;clear hW hC;go_enter func121,ntmps121;go_wp2_with fail;refine(HW.u w (Â _ _)).mono ?_;rintro e w1⟨rfl,hb1⟩;have q0:=Ab hb1;clear hb1;go_wp2_with fail;refine(HC.u w1 q0.u).mono ?_;rintro e w2⟨rfl,hb2⟩;have q4:=Ab (q0.u.trans (hb2.mono q0.u.size));clear hb2;go_wp2;go_ret;refine⟨?_,q4.u⟩;simp;omega
theorem Qs{dp m:Int}{lo:Bool}(hW:∀w1,Bl w w1->CB 56 #[PtB D] w1 (.pointer wp))(hD:∀w1,Bl w w1->CB 157 #[.pointer wp] w1 (InB m))(hL:∀w1,Bl w w1->CB 121 #[PtB D] w1 (.bool lo)):
  CB 117 #[PtB D,InB dp] w (InB (if dp<m then 7 else if lo=true then 4 else 0)):=by
 have HW:=Ab hW;have HD:=Ab hD;have HL:=Ab hL;clear hW hD hL;by_cases q6:dp<m
 .go_enter func117,ntmps117;go_wp2_with fail;refine(HW.u w (Â _ _)).mono ?_;rintro e w1⟨rfl,hb1⟩;have q0:=Ab hb1;clear hb1;go_wp2_with fail;refine(HD.u w1 q0.u).mono ?_;rintro e w2⟨rfl,hb2⟩;have q4:=Ab (q0.u.trans (hb2.mono q0.u.size));clear hb2;go_wp2;go_ret;exact⟨φ,q4.u⟩
 .go_enter func117,ntmps117;go_wp2_with fail;refine(HW.u w (Â _ _)).mono ?_;rintro e w1⟨rfl,hb1⟩;have q0:=Ab hb1;clear hb1;go_wp2_with fail;refine(HD.u w1 q0.u).mono ?_;rintro e w2⟨rfl,hb2⟩;have q4:=Ab (q0.u.trans (hb2.mono q0.u.size));clear hb2;go_wp2_with fail;refine(HL.u w2 q4.u).mono ?_;rintro e w3⟨rfl,hb3⟩;have q5:=Ab (q4.u.trans (hb3.mono q4.u.size));clear hb3;cases lo;all_goals (
   go_wp2;go_ret;exact⟨φ,q5.u⟩)
end
section
variable{w:AI}{D R:Nat}{wp:Option Addr}{jn iv:Bs}{ch:Bool}{Tb T a:pN}{Mb M:Nat->Prop}{wb:AI}{v xv:pL}{js:List pW}{y:Option Addr}{F:Nat->Prop}{d x:Int}{B:Nat}
 {k:Nat}{pa fa:Option Addr}{pl pc fl fc:Nat}{p q:List By}
theorem UD(h:JS w D R wp jn iv ch Tb Mb wb T a v M js)(hT:Aj w)(hv:pZ d x B v)(hB:B<=900000000):
  CB 121 #[PtB D] w (.bool (decide (20000<(pP top v).length))):=by
 have hc:=(Dz hv.gd).1;have hsz:=hv.sz;have q0:Rep top (λ_=>True) w (.pointer wp) v:=by
  rw[<-h.t.str];exact h.t.sub.rep λ_ _=>trivial
 exact Rw ζ (λw1 hb1=>E8 (h.bel hb1).t) λw1 hb1=>EC (q0.bel hb1) (hT.bel hb1) ζ
theorem Rl{dp:Int}(h:JS w D R wp jn iv ch Tb Mb wb T a v M js)(hT:Aj w)(hv:pZ d x B v)(hB:B<=900000000):
  CB 117 #[PtB D,InB dp] w (InB (Fi dp v)):=by
 have q0:Rep top (λ_=>True) w (.pointer wp) v:=by
  rw[<-h.t.str];exact h.t.sub.rep λ_ _=>trivial
 refine(Qs (wp:=wp) (m:=qD top v) (lo:=decide (20000<(pP top v).length)) (λw1 hb1=>E8 (h.bel hb1).t) (λw1 hb1=>OE top (by have:=DN;omega) _ w1 _ v (q0.bel hb1)) (λw1 hb1=>UD (h.bel hb1) (hT.bel hb1) hv hB)).mono ?_;rintro e w' ⟨rfl,hb⟩;refine⟨?_,hb⟩;unfold Fi;by_cases h1:dp<qD top v
 .rw[if_pos h1,if_pos h1];rfl
 .rw[if_neg h1,if_neg h1];by_cases h2:20000<(pP top v).length
  .rw[if_pos h2,if_pos (decide_eq_true h2)];rfl
  .rw[if_neg h2,if_neg (by rw[decide_eq_false h2];decide)];rfl
end
section
attribute [local go_sem] De
section
variable{w:AI}{D k:Nat}{pa fa y wp:Option Addr}{pl pc fl fc:Nat}
def opF(k:Nat):Nat:=[151,152,153,154,155,156].getD k 0
theorem kY{k:Nat}(hk:k<6):∀args w,(callFunc (opF k) args).run AT w=.ok (.enter (opF k) args) w:=by
 intro args w
 match k,hk with
 |0,_=>exact CZ func151 δ rfl args w
 |1,_=>exact CZ func152 δ rfl args w
 |2,_=>exact CZ func153 δ rfl args w
 |3,_=>exact CZ func154 δ rfl args w
 |4,_=>exact CZ func155 δ rfl args w
 |5,_=>exact CZ func156 δ rfl args w
theorem iS{Q:Nat->AI->Prop}(hk:k<6)(hC:∀w1,Bl w w1->CL AT (opF k) #[PtB D,opV k pa pl pc fa fl fc y] w1 λe w'=>∃c:Nat,e=.returned (InB c)/\Hid (Q c w')):
  CL AT 116 #[PtB D,opV k pa pl pc fa fl fc y] w λe w'=>∃c:Nat,e=.returned (InB c)/\Q c w':=by
 have HC:=Ab hC;have q9:=Ab (kY hk);obtain⟨w6,q5⟩:∃w6,w6=(w.alloc (.cells #[InB k,.slice pa pl pc,.slice fa fl fc,.pointer y] 178)).alloc (.cells #[.func (.func 151) #[PtB D] #[],.func (.func 152) #[PtB D] #[],.func (.func 153) #[PtB D] #[],.func (.func 154) #[PtB D] #[],.func (.func 155) #[PtB D] #[],.func (.func 156) #[PtB D] #[]] 225):=⟨_,rfl⟩
 have hob:OpB (w.alloc (.cells #[InB k,.slice pa pl pc,.slice fa fl fc,.pointer y] 178)) w.1.size k pa pl pc fa fl fc y:=Ê w _;have q6:=(Â w.1.size w).alloc (Á _) (.cells #[InB k,.slice pa pl pc,.slice fa fl fc,.pointer y] 178);have q4:OpB w6 w.1.size k pa pl pc fa fl fc y:=by rw[q5];exact hob.low ((Â _ _).alloc (Á _) _)
 have q0:w6.1[w.1.size+1]?=some (.cells #[.func (.func 151) #[PtB D] #[],.func (.func 152) #[PtB D] #[],.func (.func 153) #[PtB D] #[],.func (.func 154) #[PtB D] #[],.func (.func 155) #[PtB D] #[],.func (.func 156) #[PtB D] #[]] 225 (0,0)):=by
  have:=Ê (w.alloc (.cells #[InB k,.slice pa pl pc,.slice fa fl fc,.pointer y] 178)) (.cells #[.func (.func 151) #[PtB D] #[],.func (.func 152) #[PtB D] #[],.func (.func 153) #[PtB D] #[],.func (.func 154) #[PtB D] #[],.func (.func 155) #[PtB D] #[],.func (.func 156) #[PtB D] #[]] 225);rw[World.size_alloc]at this;rw[q5];exact this
 have q8:Bl w w6:=by rw[q5];exact q6.alloc q6.size _
 have c0:=q4.c0;have c1:=q4.c1;have c2:=q4.c2;have c3:=q4.c3;have cf:w6.cell? ⟨w.1.size+1,k,none⟩=some (.func (.func (opF k)) #[PtB D] #[]):=by
  match k,hk with
  |0,_=>simp[CR,q0];rfl
  |1,_=>simp[CR,q0];rfl
  |2,_=>simp[CR,q0];rfl
  |3,_=>simp[CR,q0];rfl
  |4,_=>simp[CR,q0];rfl
  |5,_=>simp[CR,q0];rfl
 have HB:=Ab q8;have q7:=Ab q5;have qb:(k:Int)<6:=ζ;have hk2:(0:Int)<=(k:Int):=ζ;generalize opF k=fk at*;clear hC hob q6 q4 q0 q8 q5;go_enter func116,ntmps116;go_wp2_with fail;rw[<-q7.u];clear q7;go_region_with (first
  |(rw[q9.u,Oper.upon_enter];refine(HC.u _ ?_).mono ?_;exact bx HB.u;rintro e w2⟨c,rfl,hq⟩))
 all_goals (
  go_wp2;go_ret;exact⟨c,rfl,hq.u⟩)
end
end
section
variable{w:AI}{D R:Nat}{wp:Option Addr}{jn iv:Bs}{ch:Bool}{Tb T a:pN}{Mb M:Nat->Prop}{wb:AI}{v xv:pL}{js:List pW}{y:Option Addr}{F:Nat->Prop}{d x:Int}{B:Nat}
 {k:Nat}{pa fa:Option Addr}{pl pc fl fc:Nat}{p q:List By}
def Jx(w:AI)(G:Nat->Prop)(o:qH)(pa:Option Addr)(pl pc:Nat)(fa:Option Addr)(fl fc:Nat)(y:Option Addr):Prop:=
 o.1<6/\Bd w G (.slice pa pl pc) o.2.1/\((o.1=3\/o.1=4)->Bd w G (.slice fa fl fc) o.2.2.1)/\((o.1=0\/o.1=2\/o.1=5)->Rep top G w (.pointer y) o.2.2.2)
def tY(d x:Int)(B:Nat)(o:qH):Prop:=sK o.2.1/\((o.1=3\/o.1=4)->sK o.2.2.1)/\((o.1=0\/o.1=2\/o.1=5)->pZ d x B o.2.2.2)
theorem mA{o:qH}(h:JS w D R wp jn iv ch Tb Mb wb T a v M js)(hT:Aj w)(q5:∀k,k<NG->M k)(hv:pZ d x B v)(hB:B<=900000000)(hl:js.length<=900000000)(ho:Jx w (GA (top+1) Tb wb M) o pa pl pc fa fl fc y)(hok:tY d x B o):
  CL AT 116 #[PtB D,opV o.1 pa pl pc fa fl fc y] w λe w'=>AR D R iv ch Tb Mb wb M js w (sP v o) e w':=by
 have hM:∀k,M k->k<w.1.size:=λk hk=>(h.j.low k hk).1;obtain⟨k,p,q,xv⟩:=o;obtain⟨o1,o2,o3,o4⟩:=ho;obtain⟨k1,k2,k3⟩:=hok;simp only at o1 o2 o3 o4 k1 k2 k3 |-;refine(iS (Q:=λc w'=>AR D R iv ch Tb Mb wb M js w (sP v (k,p,q,xv)) (.returned (InB c)) w') o1 λw1 hb1=>?_).mono ?_
 .have q0:∀{r:Except Nat (pL×List pW)}{f:Nat},sP v (k,p,q,xv)=r->CL AT f #[PtB D,opV k pa pl pc fa fl fc y] w1 (λe w'=>AR D R iv ch Tb Mb wb M js w1 r e w') ->
    CL AT f #[PtB D,opV k pa pl pc fa fl fc y] w1 (λe w'=>∃c:Nat,e=.returned (InB c)/\Hid (AR D R iv ch Tb Mb wb M js w (sP v (k,p,q,xv)) (.returned (InB c)) w')):=by
   intro r f hr hc;refine hc.mono ?_;rintro e w' he;obtain⟨c,rfl,h2⟩:=he.form;rw[hr];exact⟨c,rfl,AR.below hb1 hM h2.u⟩
  have hJ:=h.bel hb1;have q4:=hT.bel hb1;have p1:=o2.at hb1
  match k,o1 with
  |0,_=>exact q0 rfl (Xx hJ q4 hv (k3 (Å rfl)) hB ζ ((o4 (Å rfl)).bel hb1) p1 k1)
  |1,_=>exact q0 rfl (Qo hJ q4 hv hB ζ p1 k1)
  |2,_=>exact q0 rfl (OL hJ q4 hv (k3 (À (Å rfl))) hB ζ ((o4 (À (Å rfl))).bel hb1) p1 k1)
  |3,_=>exact q0 rfl (UV hJ q4 q5 hv hB hl p1 k1 ((o3 (Å rfl)).at hb1) (k2 (Å rfl)))
  |4,_=>exact q0 rfl (UY hJ q4 hv hB ζ p1 k1 ((o3 (À rfl)).at hb1) (k2 (À rfl)))
  |5,_=>exact q0 rfl (UT hJ q4 ((o4 (À (À rfl))).bel hb1) p1 k1)
 .rintro e w' ⟨c,rfl,h2⟩;exact h2
end
section
theorem Kk{d x:Int}{f:Nat}{lv:Int}{v e:pL}{t:By}(h:pU d x (f+1) lv v)(hc:qA v t=.ok e):∃i,sY v t=some i/\(AW v)[i]?=some e:=by
 obtain⟨_,h⟩:=h;rcases h with⟨k,hk,rfl⟩|⟨s,hs,rfl⟩|⟨n,h1,h2,h3,rfl⟩|⟨es,h,rfl⟩|⟨es,h1,h2,rfl⟩
 .cases hc
 .cases hc
 .cases hc
 .obtain⟨i,_,h2,h3⟩:=JF hc;exact⟨i,h3,h2⟩
 .have hp:∀(es:List (Lit×pL)),Pt (λ_ _=>True) (es.map λp=>(p.1,DataW.held (Value.pointer none))) es:=by
   intro es;induction es with
   |nil=>exact trivial
   |cons a r ih=>exact⟨⟨rfl,_,rfl,trivial⟩,ih⟩
  have q0:qA (Ap es) t=(if D9 (.map es:pL) (.string t)=true then .ok ((DD es).atKey (.string t) .nil)else .error 11):=rfl;rw[q0]at hc;split at hc
  .rename_i hh;injection hc with hc;have q4:=(hp es).has (.string t);obtain⟨i,key,c,_,e1,e2,e3,_,_⟩:=(hp es).first (.string t) (q4.trans hh);refine⟨i,e1,?_⟩;show(es.map Prod.snd)[i]?=some e;rw[Þ,e2,<-hc,Co,e3];rfl
  .cases hc
theorem P8{d x:Int}:∀{s:List By}{f:Nat}{lv:Int}{v n:pL},pU d x f lv v->Ag v s=.ok n ->∃q f',f'+1+q.length=f/\CN v s=some q/\BD q v=some n
 |[],f,lv,v,n,h,hf=>by
  cases hf;cases f with
  |zero=>exact h.elim
  |succ f=>exact⟨[],f,rfl,rfl,rfl⟩
 |t::r,f,lv,v,n,h,hf=>by
  cases f with
  |zero=>exact h.elim
  |succ f=>
   rw[Ag]at hf;cases hc:qA v t with
   |error c=>rw[hc]at hf;cases hf
   |ok e=>
    rw[hc]at hf;obtain⟨i,h1,h2⟩:=Kk h hc;obtain⟨q,f',e1,e2,e3⟩:=P8 (Et h h2) hf;refine⟨i::q,f',ω,?_,?_⟩
    .rw[CN,h1];simp only[h2,e2];rfl
    .rw[BD,h2];exact e3
variable{d d' x:Int}{B B':Nat}{v n e xv:pL}{s p q:List By}{t:By}
theorem GS(hv:pZ d x B v)(hf:Ag v s=.ok n):∃q f,f+1+If q=top/\CN v s=some q/\BD q v=some n/\pU d x (f+1) (1+q.length) n/\pV (f+1) n<=B/\1+(q.length:Int)<=d/\1000<=f:=by
 obtain⟨q,f,h1,h2,h3⟩:=P8 hv.gd hf;have hg:pU d x (f+1+q.length) 1 v:=by rw[h1];exact hv.gd
 have g1:=P1 hg h3;have g2:=LM hg h3;rw[h1]at g2;have g3:=Hn g1;have:=hv.sz;have:=hv.dd;have:=DN;exact⟨q,f,h1,h2,h3,g1,ζ,g3,ζ⟩
theorem pZ.mono(h:pZ d x B v)(hd:d<=d')(h5:d'<=500)(hB:B<=B'):pZ d' x B' v:=⟨Dh hd h.gd,h5,Ã h.sz hB⟩
theorem GT(hv:pZ d x B v)(hf:Ag v s=.ok n):pZ d x B n:=by
 obtain⟨q,f,h1,h2,h3,h4,h5,h6,h7⟩:=GS hv hf;have g1:=GP (s:=-(q.length:Int)) h4;rw[show(1:Int)+q.length + -(q.length:Int)=1 from ζ]at g1;have g2:pU d x (f+1) 1 n:=Dh ζ g1;refine⟨CT g2 (by have:=hv.dd;have:=DN;omega),hv.dd,?_⟩;rw[F4 g2 ζ];exact h5
theorem It{f:Nat}{qq:List Nat}{n':pL}(hv:pZ d x B v)(h1:f+1+qq.length=top)(h3:BD qq v=some n)(hd:d<=d')(h5:d'<=500)(hg:pU d' x (f+1) (1+qq.length) n')(hs:pV (f+1) n'<=pV (f+1) n+B'):pZ d' x (B+B') (AJ qq n' v):=by
 have q0:pU d' x (f+1+qq.length) 1 v:=by rw[h1];exact Dh hd hv.gd
 have g1:=P4 q0 h3 hg;have g2:=Pc (n':=n') q0 h3;rw[h1]at g1 g2;have:=hv.sz;exact⟨g1,h5,ζ⟩
theorem dE{f:Nat}{k:Nat}(hx:pZ d' x B' xv)(hk:1+(k:Int)<=d)(h5:d+d'<=500)(hf:1000<=f):pU (d+d') x f (1+(k:Int)+1) xv/\pV f xv<=B':=by
 have g1:=GP (s:=1+(k:Int)) hx.gd;have g2:=Dh (D:=d+d') ζ g1;rw[show(1:Int)+(1+(k:Int))=1+(k:Int)+1 from ζ]at g2;refine⟨CT g2 ζ,?_⟩;have g3:=CT (f:=f) hx.gd (by have:=hx.dd;omega);have h9:=hx.sz;by_cases q0:f<=top
 .rw[F4 g3 q0]at h9;exact h9
 .rw[F4 hx.gd ζ];exact h9
theorem Si(h:sK p)(ht:t∈p):(Ai t).length<=600002:=by
 have:=Fm t;have:=h.tok t ht;omega
theorem FE:Ut uE:=⟨[],(λc h=>by cases h),rfl⟩
def D5(d x:Int)(B:Nat)(o:pW):Prop:=(o.2.1.map λt=>t.length+1).sum<=200000/\(o.1≠1->pZ d x B o.2.2)
theorem Gz(s:List By)(t:By):((s++[t]).map λt=>t.length+1).sum=(s.map λt=>t.length+1).sum+(t.length+1):=φ
theorem UC(i:Nat)(h:i<=1000000000000):(Lib.itoa (i:Int)).length<=1000:=by
 have:=Lib.itoa_length_le (i:Int) ζ ζ;omega
theorem Lr(hv:pZ d x B v)(hx:pZ d' x B' xv)(hp:sK p)(h5:d+d'<=500)(hB:B<=900000000)(h:BV v p xv=.ok (v',j)):pZ (d+d') x (B+(B'+600004)) v'/\∀o∈j,D5 d x B o:=by
 have q7:=Hn hv.gd;have q8:=Hn hx.gd;unfold BV BB at h;cases hl:p.getLast? with
 |none=>
  rw[hl]at h;injection h with h;injection h with e1 e2;subst e1;subst e2;refine⟨hx.mono ζ h5 ζ,λo ho=>?_⟩;obtain rfl:o=(2,[],v):=by simpa using ho
  exact⟨φ,λ_=>hv⟩
 |some t=>
  have hne:p≠[]:=by rintro rfl;cases hl
  obtain⟨s,t',rfl⟩:∃s t,p=s++[t]:=⟨p.dropLast,p.getLast hne,(ë hne).symm⟩
  rw[Ō]at hl;injection hl with hl;subst hl;simp only[Ō,C2]at h;cases hf:Ag v s with
  |error c=>rw[hf]at h;cases h
  |ok n=>
   rw[hf]at h;simp only at h;obtain⟨qq,f,h1,h2,h3,h4,q6,h6,h7⟩:=GS hv hf;obtain⟨g1,g2⟩:=dE (d:=d) hx h6 h5 h7;have hq:=Si hp (show t'∈s++[t']from φ);have q5:Ut t':=hp.2 t' φ;have q4:=hp.1;rw[Gz]at q4;have q0:=Dh (D:=d+d') ζ h4;unfold CA at h;split at h
   .rename_i es;split at h
    .rename_i hh;injection h with h;injection h with e1 e2;subst e1;subst e2;rw[DM h2];refine⟨It hv h1 h3 ζ h5 (W6 q0 q5 g1) ?_,λo ho=>?_⟩
     .have:=VF (f:=f) (i:=0) (k:=t') (c:=xv) (v:=.map es);omega
     .obtain rfl:o=(2,s++[t'],(DD es).atKey (.string t') .nil):=by simpa using ho
      refine⟨by rw[Gz];omega,λ_=>?_⟩;have hch:Ag v (s++[t'])=.ok ((DD es).atKey (.string t') .nil):=by
       rw[CY,hf];show(if D9 (.map es:pL) (.string t')=true then Except.ok ((DD es).atKey (.string t') .nil)else .error 11)=_;rw[if_pos hh]
      exact GT hv hch
    .injection h with h;injection h with e1 e2;subst e1;subst e2;rw[DM h2];refine⟨It hv h1 h3 ζ h5 (Xb q0 q5 g1) ?_,λo ho=>?_⟩
     .have:=VI (f:=f) (i:=0) (k:=t') (c:=xv) (v:=.map es);omega
     .obtain rfl:o=(1,s++[t'],.nil):=by simpa using ho
      exact⟨by rw[Gz];omega,λhh=>absurd rfl hh⟩
   .rename_i es y;split at h
    .cases h
    .rename_i i hi;injection h with h;injection h with e1 e2;subst e1;subst e2;rw[DM h2];have q9:=Sa hi;have hk:=Iq (f:=f) (v:=.slice es y);have hk2:es.length<=B:=Ã hk q6;refine⟨It hv h1 h3 ζ h5 (Xb q0 FE g1) ?_,λo ho=>?_⟩
     .have:=VI (f:=f) (i:=i) (k:=uE) (c:=xv) (v:=.slice es y);have e9:(Ai uE).length=2:=rfl;omega
     .obtain rfl:o=(1,s++[Lib.itoa (i:Int)],.nil):=by simpa using ho
      refine⟨?_,λhh=>absurd rfl hh⟩;have:=UC i ζ;rw[Gz];omega
   .cases h
theorem FR(hv:pZ d x B v)(hp:sK p)(h:B6 v p=.ok (v',j)):pZ d x B v'/\∀o∈j,D5 d x B o:=by
 unfold B6 BB at h;cases hl:p.getLast? with
 |none=>rw[hl]at h;cases h
 |some t=>
  have hne:p≠[]:=by rintro rfl;cases hl
  obtain⟨s,t',rfl⟩:∃s t,p=s++[t]:=⟨p.dropLast,p.getLast hne,(ë hne).symm⟩
  simp only[Ō,C2]at h;cases hf:Ag v s with
  |error c=>rw[hf]at h;cases h
  |ok n=>
   rw[hf]at h;simp only at h;cases hc:qA n t' with
   |error c=>rw[hc]at h;cases h
   |ok e=>
    rw[hc]at h;simp only at h;cases h;obtain⟨qq,f,h1,h2,h3,h4,q0,h6,h7⟩:=GS hv hf;rw[DM h2];have h8:=It (B':=0) hv h1 h3 (Ā _) hv.dd (Xa (i:=(qG t').getD 0) (k:=t') h4) (by have:=VG (f:=f) (i:=(qG t').getD 0) (k:=t') (v:=n);omega);refine⟨h8,λo ho=>?_⟩;obtain rfl:o=(0,s++[t'],e):=by simpa using ho
    exact⟨by have:=hp.1;simp only;omega,λ_=>GT hv (by rw[CY,hf];exact hc)⟩
theorem bA(hv:pZ d x B v)(hx:pZ d' x B' xv)(hp:sK p)(h5:d+d'<=500)(h:Di v p xv=.ok (v',j)):pZ (d+d') x (B+(B'+600004)) v'/\∀o∈j,D5 d x B o:=by
 have q6:=Hn hv.gd;have q7:=Hn hx.gd;unfold Di BB at h;cases hl:p.getLast? with
 |none=>
  rw[hl]at h;cases h;refine⟨hx.mono ζ h5 ζ,λo ho=>?_⟩;obtain rfl:o=(2,[],v):=by simpa using ho
  exact⟨φ,λ_=>hv⟩
 |some t=>
  have hne:p≠[]:=by rintro rfl;cases hl
  obtain⟨s,t',rfl⟩:∃s t,p=s++[t]:=⟨p.dropLast,p.getLast hne,(ë hne).symm⟩
  simp only[Ō,C2]at h;cases hf:Ag v s with
  |error c=>rw[hf]at h;cases h
  |ok n=>
   rw[hf]at h;simp only at h;cases hc:qA n t' with
   |error c=>rw[hc]at h;cases h
   |ok e=>
    rw[hc]at h;simp only at h;cases h;obtain⟨qq,f,h1,h2,h3,h4,q5,h6,h7⟩:=GS hv hf;obtain⟨g1,g2⟩:=dE (d:=d) hx h6 h5 h7;have hq:=Si hp (show t'∈s++[t']from φ);have q4:Ut t':=hp.2 t' φ;have q0:=Dh (D:=d+d') ζ h4;rw[DM h2];refine⟨It hv h1 h3 ζ h5 (W6 q0 q4 g1) ?_,λo ho=>?_⟩
    .have:=VF (f:=f) (i:=(qG t').getD 0) (k:=t') (c:=xv) (v:=n);omega
    .obtain rfl:o=(2,s++[t'],e):=by simpa using ho
     exact⟨by have:=hp.1;simp only;omega,λ_=>GT hv (by rw[CY,hf];exact hc)⟩
theorem Gq{o:qH}(hv:pZ d x 200000 v)(ho:tY (d+2) x 200000 o)(h5:d<=100)(h:sP v o=.ok (v',j)):pZ (d+(d+2)) x 1100000 v'/\(∀o∈j,D5 d x 200000 o)/\j.length<=2:=by
 obtain⟨k,p,q,xv⟩:=o;obtain⟨k1,k2,k3⟩:=ho;have q5:=Hn hv.gd;simp only at k1 k2 k3;have q0:∀{w:pL}{D:Int}{C:Nat},pZ D x C w->D<=d+(d+2)->C<=1100000->pZ (d+(d+2)) x 1100000 w:=λhw h1 h2=>hw.mono h1 ζ h2;have one:∀{p:List By}{xv v':pL}{j:List pW},BV v p xv=.ok (v',j)->j.length<=1:=by
  intro p xv v' j h;unfold BV at h;split at h
  .injection h with h;injection h with _ h;subst h;simp
  .split at h
   .cases h
   .unfold CA at h
    repeat' split at h
    all_goals first|(injection h with h;injection h with _ h;subst h;simp)|cases h
 unfold sP at h;simp only at h;split at h
 .rename_i hk;obtain⟨r1,r2⟩:=Lr hv (k3 (Å hk)) k1 ζ ζ h;exact⟨q0 r1 ζ ζ,r2,Ã (one h) ζ⟩
 .split at h
  .obtain⟨r1,r2⟩:=FR hv k1 h;refine⟨q0 r1 ζ ζ,r2,?_⟩;unfold B6 at h
   repeat' split at h
   all_goals first|(injection h with h;injection h with _ h;subst h;simp)|cases h
  .split at h
   .rename_i hk;obtain⟨r1,r2⟩:=bA hv (k3 (À (Å hk))) k1 ζ h;refine⟨q0 r1 ζ ζ,r2,?_⟩;unfold Di at h
    repeat' split at h
    all_goals first|(injection h with h;injection h with _ h;subst h;simp)|cases h
   .split at h
    .rename_i hk;have kq:=k2 (Å hk);unfold Jq at h;cases hf:Ag v q with
     |error c=>rw[hf]at h;cases h
     |ok e=>
      rw[hf]at h;simp only at h;split at h
      .cases h;exact⟨q0 hv ζ ζ,(λo ho=>by cases ho),φ⟩
      .split at h
       .cases h
       .cases hr:B6 v q with
        |error c=>rw[hr]at h;cases h
        |ok vj=>
         obtain⟨v1,j1⟩:=vj;rw[hr]at h;simp only at h;obtain⟨r1,r2⟩:=FR hv kq hr;have q6:j1.length<=1:=by
          unfold B6 at hr
          repeat' split at hr
          all_goals first|(injection hr with hr;injection hr with _ hr;subst hr;simp)|cases hr
         cases ha:BV v1 p e with
         |error c=>rw[ha]at h;cases h
         |ok q4=>
          obtain⟨v2,j2⟩:=q4;rw[ha]at h;cases h;obtain⟨s1,s2⟩:=Lr r1 (GT hv hf) k1 ζ ζ ha;have q7:j2.length<=1:=by
           unfold BV at ha;split at ha
           .injection ha with ha;injection ha with _ ha;subst ha;simp
           .split at ha
            .cases ha
            .unfold CA at ha
             repeat' split at ha
             all_goals first|(injection ha with ha;injection ha with _ ha;subst ha;simp)|cases ha
          exact⟨q0 s1 ζ ζ,λo ho=>(ó.1 ho).elim (r2 o) (s2 o),ω⟩
    .split at h
     .unfold Jr at h;cases hf:Ag v q with
      |error c=>rw[hf]at h;cases h
      |ok e=>
       rw[hf]at h;obtain⟨s1,s2⟩:=Lr hv (GT hv hf) k1 ζ ζ h;exact⟨q0 s1 ζ ζ,s2,Ã (one h) ζ⟩
     .unfold Jo at h;cases hf:Ag v p with
      |error c=>rw[hf]at h;cases h
      |ok e=>
       rw[hf]at h;simp only at h;split at h
       .cases h;exact⟨q0 hv ζ ζ,(λo ho=>by cases ho),φ⟩
       .cases h
theorem Ja{D:Int}{C:Nat}(hv:pZ D x C v)(h5:d<=100)(h:Fi d v=0):pZ d x 40000 v/\(pP top v).length<=20000:=by
 unfold Fi at h;split at h
 .cases h
 .split at h
  .cases h
  .rename_i h1 h2;have g:=P5 hv.gd (show 1+qD top v<=d+1 from ζ);have:=(Dz hv.gd).2;exact⟨⟨g,ζ,ζ⟩,ζ⟩
theorem mB{o:qH}(h:sP v o=.error c):c≠0:=by
 have q0:∀{v:pL}{p:List By}{xv:pL}{c:Nat},BV v p xv=.error c->c≠0:=by
  intro v p xv c h;unfold BV at h;split at h
  .cases h
  .split at h
   .rename_i hf;cases h;exact BQ hf
   .unfold CA at h;split at h
    .split at h<;>cases h
    .split at h
     .rename_i hs;cases h;exact K9 hs
     .cases h
    .injection h with h;omega
 have hch:∀{v:pL}{t:By}{c:Nat},qA v t=.error c->c≠0:=λh=>by have:=Dn h;omega
 have q4:∀{v:pL}{p:List By}{c:Nat},B6 v p=.error c->c≠0:=by
  intro v p c h;unfold B6 at h;split at h
  .injection h with h;omega
  .split at h
   .rename_i hf;cases h;exact BQ hf
   .split at h
    .rename_i hc;cases h;exact hch hc
    .cases h
 unfold sP at h;split at h
 .exact q0 h
 .split at h
  .exact q4 h
  .split at h
   .unfold Di at h;split at h
    .cases h
    .split at h
     .rename_i hf;cases h;exact BQ hf
     .split at h
      .rename_i hc;cases h;exact hch hc
      .cases h
   .split at h
    .unfold Jq at h;split at h
     .rename_i hf;cases h;exact BQ hf
     .split at h
      .cases h
      .split at h
       .injection h with h;omega
       .split at h
        .rename_i hr;cases h;exact q4 hr
        .split at h
         .rename_i ha;cases h;exact q0 ha
         .cases h
    .split at h
     .unfold Jr at h;split at h
      .rename_i hf;cases h;exact BQ hf
      .exact q0 h
     .unfold Jo at h;split at h
      .rename_i hf;cases h;exact BQ hf
      .split at h
       .cases h
       .injection h with h;omega
end
def Cq(m:Option pL->List By->pL->pL×List pW)(s:List By)(q:Lit×pL)(es:List (Lit×pL)):List (Lit×pL)×List pW:=
 if tJ q.2 then(match Aq es q.1 with
  |none=>(es,[])
  |some o=>(qY q.1 es,[(0,s++[GL q.1],o)]))
 else(qI q.1 (m (Aq es q.1) (s++[GL q.1]) q.2).1 es,(m (Aq es q.1) (s++[GL q.1]) q.2).2)
def Dg(m:Option pL->List By->pL->pL×List pW)(s:List By):List (Lit×pL)->List (Lit×pL)->List (Lit×pL)×List pW
 |[],es=>(es,[])
 |q::r,es=>((Dg m s r (Cq m s q es).1).1,(Cq m s q es).2++(Dg m s r (Cq m s q es).1).2)
theorem Gi(m:Option pL->List By->pL->pL×List pW)(s:List By):∀(l es:List (Lit×pL)),H7 m s l es=(.map (Dg m s l es).1,(Dg m s l es).2)
 |[],es=>rfl
 |(k,q)::r,es=>by
  unfold H7 Dg Cq;by_cases hn:tJ q=true
  .rw[if_pos hn,if_pos hn];cases hg:Aq es k with
   |none=>simp only;rw[Gi];rfl
   |some o=>simp only;rw[Gi];rfl
  .rw[if_neg hn,if_neg hn];simp only;rw[Gi]
theorem Bi{k:By}{c:pL}(hs:AQ es)(h:(AS k,c)∈es):Aq es (.string k)=some c:=by
 have q0:=apart_of_rising hs.1;have h1:D9 (.map es:pL) (.string k)=true:=è.2 ⟨_,h,Fx.2 rfl⟩;unfold Aq;rw[if_pos h1,Ă .nil (by exact trivial) q0 h]
theorem B9{k:By}(h:∀p∈es,p.1≠AS k):Aq es (.string k)=none:=by
 unfold Aq;rw[if_neg];intro h1;obtain⟨p,hp,h2⟩:=è.1 (show(es.any λp=>p.1.sameKey (.string k))=true from h1);exact h p hp (ć h2)
theorem Gk(es:List (Lit×D6 α))(k:By):(∃c,(AS k,c)∈es)\/∀p∈es,p.1≠AS k:=by
 grind
theorem Gb(k:By):(AS k).before (.string k)=false:=by
 cases h:(AS k).before (.string k)with
 |false=>rfl
 |true=>exact absurd (FT k k h) (ı k)
theorem RF{a b:By}(h:(AS a).before (.string b)=true):(AS b).before (.string a)=false:=by
 cases h2:(AS b).before (.string a)with
 |false=>rfl
 |true=>exact absurd (List.lt_trans (FT a b h) (FT b a h2)) (ı a)
theorem wR{k:By}{x:D6 α}:∀{r:List (Lit×D6 α)},(∀p∈r,(AS k).before p.1=true)->BY (.string k,x) r=(.string k,x)::r
 |[],_=>rfl
 |a::r,h=>by
  grind [BY]
theorem MQ:∀l:By,((qJ l).map λt=>t.length+1).sum=l.length+1
 |[]=>rfl
 |c::r=>by
  have ih:=MQ r;unfold qJ;split
  .simp[ih];omega
  .cases h:qJ r with
   |nil=>rw[h]at ih;simp at ih
   |cons p ps=>rw[h]at ih;simp at ih |-;omega
theorem jS(n:Nat):∀(l k:By),l.length<=n->qC l=some k->k.length<=l.length:=by
 induction n with
 |zero=>
  intro l k hl h;obtain rfl:l=[]:=ê ζ;cases h;exact Á _
 |succ n ih=>
  intro l k hl h;cases l with
  |nil=>cases h;exact Á _
  |cons c r=>
   rw[Dy]at h;simp only[É]at hl;split at h
   .split at h
    .rename_i q;cases hq:qC q with
     |none=>rw[hq]at h;cases h
     |some k'=>
      rw[hq]at h;cases h;have:=ih q k' (by simp only[É]at hl;omega) hq;simp only[É];omega
    .rename_i q;cases hq:qC q with
     |none=>rw[hq]at h;cases h
     |some k'=>
      rw[hq]at h;cases h;have:=ih q k' (by simp only[É]at hl;omega) hq;simp only[É];omega
    .cases h
   .cases hq:qC r with
    |none=>rw[hq]at h;cases h
    |some k'=>
     rw[hq]at h;cases h;have:=ih r k' ζ hq;simp only[É];omega
theorem Mh:∀(ts ks:List By),rQ ts=some ks->(ks.map λt=>t.length+1).sum<=(ts.map λt=>t.length+1).sum
 |[],ks,h=>by cases h;exact Á _
 |t::r,ks,h=>by
  unfold rQ at h;split at h
  .cases h
  .rename_i k hk;cases hr:rQ r with
   |none=>rw[hr]at h;cases h
   |some ks'=>
    rw[hr]at h;cases h;have h1:=jS t.length t k (Á _) hk;have h2:=Mh r ks' hr;simp only[Ð,Ĉ];omega
theorem Yx{l:By}{ks:List By}(h:qX l=some ks):(ks.map λt=>t.length+1).sum<=l.length:=by
 unfold qX at h;split at h
 .split at h
  .rename_i r hp;have h1:=MQ l;rw[hp]at h1;have h2:=Mh _ _ h;simp only[Ð,Ĉ,á]at h1;omega
  .cases h
 .cases h
theorem Iu(hc:Sc c)(b:Nat)(hb:b<128):(c=b/\qS c=[B3 b])\/(c≠b/\∀x∈qS c,x≠B3 b):=by
 by_cases h:c=b
 .subst h;exact Å ⟨rfl,DF c hb⟩
 .refine À ⟨h,λx hx e=>?_⟩;have q0:(B3 b).toNat=b:=ω;by_cases h1:c<128
  .rw[show qS c=[B3 c]from DF c h1]at hx;have h2:B3 c=B3 b:=(ü.1 hx).symm.trans e;have h3:=congrArg UInt8.toNat h2;rw[q0]at h3;simp at h3;omega
  .have h2:=(GV c ζ hc []).1 x hx;rw[e,q0]at h2;omega
theorem lX(hc:Sc c):∃x r,qS c=x::r:=by
 by_cases h1:c<128
 .exact⟨_,_,DF c h1⟩
 .have h2:=(GV c ζ hc []).2.2;cases he:qS c with
  |nil=>
   have h3:2<=(qS c).length:=by first|exact h2|exact h2.1
   rw[he]at h3;simp at h3
  |cons x r=>exact⟨x,r,rfl⟩
theorem Sv{a:By}(h:∀x∈a,x≠47)(l:By):∃p ps,qJ l=p::ps/\qJ (a++l)=(a++p)::ps:=by
 induction a with
 |nil=>
  cases hp:qJ l with
  |nil=>have:=MQ l;rw[hp]at this;simp at this
  |cons p ps=>exact⟨p,ps,rfl,hp⟩
 |cons c r ih=>
  obtain⟨p,ps,h1,h2⟩:=ih λx hx=>h x (by simp[hx]);refine⟨p,ps,h1,?_⟩;show qJ (c::(r++l))=_;unfold qJ;rw[if_neg (h c φ),h2];rfl
theorem MK(hc:Sc c){s:By}(h:Ut s):Ut (qS c++s):=by
 obtain⟨cs,h1,rfl⟩:=h;exact⟨c::cs,λx hx=>(Ë.1 hx).elim (λe=>e▸hc) (h1 x),φ⟩
theorem Wg:∀(cs:List Nat),(∀c∈cs,Sc c) ->∀t∈qJ (cs.flatMap qS),Ut t
 |[],_,t,ht=>by
  obtain rfl:t=[]:=by simpa[qJ]using ht
  exact FE
 |c::cs,h,t,ht=>by
  have hc:=h c φ;have ih:=Wg cs λx hx=>h x (by simp[hx]);rw[ã]at ht;rcases Iu hc 47 ζ with⟨rfl,e⟩|⟨hne,e⟩
  .rw[e]at ht;have e2:qJ ([B3 47]++cs.flatMap qS)=[]::qJ (cs.flatMap qS):=by show qJ (47::cs.flatMap qS)=_;rw[qJ,if_pos rfl]
   rw[e2]at ht;rcases Ë.1 ht with rfl|ht
   .exact FE
   .exact ih t ht
  .obtain⟨p,ps,h1,h2⟩:=Sv e (cs.flatMap qS);rw[h2]at ht;rw[h1]at ih;rcases Ë.1 ht with rfl|ht
   .exact MK hc (ih p φ)
   .exact ih t (by simp[ht])
theorem dW{a:By}(h:∀x∈a,x≠126)(l:By):qC (a++l)=(qC l).map (a ++ ·):=by
 induction a with
 |nil=>show qC l=_;cases qC l<;>rfl
 |cons c r ih=>
  show qC (c::(r++l))=_;rw[Dy,if_neg (h c φ),ih λx hx=>h x (by simp[hx])];cases qC l<;>rfl
theorem jQ(n:Nat):∀(cs:List Nat),cs.length<=n->(∀c∈cs,Sc c) ->∀k,qC (cs.flatMap qS)=some k->Ut k:=by
 induction n with
 |zero=>
  intro cs hl _ k hk;obtain rfl:cs=[]:=ê ζ;cases hk;exact FE
 |succ n ih=>
  intro cs hl h k hk;cases cs with
  |nil=>cases hk;exact FE
  |cons c cs=>
   have hc:=h c φ;simp only[É]at hl;rw[ã]at hk;rcases Iu hc 126 ζ with⟨rfl,e⟩|⟨hne,e⟩
   .rw[e]at hk;have hk2:qC (126::cs.flatMap qS)=some k:=hk;rw[Dy,if_pos rfl]at hk2;cases cs with
    |nil=>cases hk2
    |cons c2 cs=>
     have q5:=h c2 φ;have h3:∀c∈cs,Sc c:=λx hx=>h x (by simp[hx]);simp only[É]at hl;rw[ã]at hk2;have q6:∀(z:Nat) (hz:Sc z) (u:By) ,qC (cs.flatMap qS)=some u->Ut (qS z++u):=λz hz u hu=>MK hz (ih cs ζ h3 u hu);have q4:Sc 126:=Å ζ;have q7:Sc 47:=Å ζ;rcases Iu q5 48 ζ with⟨rfl,e2⟩|⟨q8,e2⟩
     .rw[e2]at hk2;have q0:(qC (cs.flatMap qS)).map (126 :: ·)=some k:=hk2;cases hu:qC (cs.flatMap qS)with
      |none=>rw[hu]at q0;cases q0
      |some u=>
       rw[hu]at q0;cases q0;have:=q6 126 q4 u hu;rw[show qS 126=[126]from DF 126 ζ]at this;exact this
     .rcases Iu q5 49 ζ with⟨rfl,e3⟩|⟨q9,e3⟩
      .rw[e3]at hk2;have q0:(qC (cs.flatMap qS)).map (47 :: ·)=some k:=hk2;cases hu:qC (cs.flatMap qS)with
       |none=>rw[hu]at q0;cases q0
       |some u=>
        rw[hu]at q0;cases q0;have:=q6 47 q7 u hu;rw[show qS 47=[47]from DF 47 ζ]at this;exact this
      .obtain⟨x,r,hx⟩:=lX q5;rw[hx]at hk2 e2 e3;have a1:x≠48:=e2 x φ;have a2:x≠49:=e3 x φ;exfalso
       revert hk2
       show(match x::(r++cs.flatMap qS)with|48::q=>(qC q).map (126 :: ·)|49::q=>(qC q).map (47 :: ·)|_=>none)=some k->False;split
       .rename_i q hq;injection hq with hq;exact absurd hq a1
       .rename_i q hq;injection hq with hq;exact absurd hq a2
       .intro h;cases h
   .have e4:∀x∈qS c,x≠(126:UInt8):=e;rw[dW e4]at hk;cases hu:qC (cs.flatMap qS)with
    |none=>rw[hu]at hk;cases hk
    |some u=>
     rw[hu]at hk;cases hk;exact MK hc (ih cs ζ (λx hx=>h x (by simp[hx])) u hu)
theorem Oc:∀(ts ks:List By),(∀t∈ts,Ut t)->rQ ts=some ks ->∀k∈ks,Ut k
 |[],ks,_,h,k,hk=>by cases h;cases hk
 |t::r,ks,ht,h,k,hk=>by
  unfold rQ at h;split at h
  .cases h
  .rename_i k1 q0;cases hr:rQ r with
   |none=>rw[hr]at h;cases h
   |some ks'=>
    rw[hr]at h;cases h;rcases Ë.1 hk with rfl|hk
    .obtain⟨cs,h1,rfl⟩:=ht t φ;exact jQ cs.length cs (Á _) h1 _ q0
    .exact Oc r ks' (λt q4=>ht t (by simp[q4])) hr k hk
theorem dZ{l:By}{ks:List By}(hl:Ut l)(h:qX l=some ks):∀k∈ks,Ut k:=by
 obtain⟨cs,h1,rfl⟩:=hl;have h2:=Wg cs h1;unfold qX at h;split at h
 .split at h
  .rename_i r hp;rw[hp]at h2;exact Oc r ks (λt ht=>h2 t (by simp[ht])) h
  .cases h
 .cases h
theorem eA{l:By}{ks:List By}(hl:Ut l)(hn:l.length<=100000)(h:qX l=some ks):sK ks:=⟨Ã (Yx h) hn,dZ hl h⟩
theorem GI{nm:By}{hv hf:Bool}{k:Nat}(h:BJ nm hv hf=some k):k<6/\((k=0\/k=2\/k=5)->hv=true)/\((k=3\/k=4)->hf=true):=by
 unfold BJ at h;grind
theorem aM(c:UInt8):1<=(BE c).length:=by
 grind [BE]
theorem Ta:∀s:By,s.length<=(AF s).length
 |[]=>Á _
 |c::r=>by
  have h1:=aM c;have h2:=Ta r;grind [AF,B2,C1]
theorem Sj(s:By):s.length<=(Ai s).length:=by
 have:=Ta s;grind [Ai]
theorem jX{f:Nat}{s:By}:s.length<=(pP (f+1) (Av s)).length:=by rw[Gt];exact Sj s
theorem aQ{f:Nat}{es:List pL}:es.length<=(pP (f+1) (Ak es)).length/\∀e∈es,(pP f e).length<=(pP (f+1) (Ak es)).length:=by
 have h2:(es.map λe=>(pP f e).length+1).sum<=(Ah (es.map (pP f))).length+1:=by
  have h2:=Jf (es.map (pP f));rw[Ý]at h2;exact h2
 have h3:∀l:List pL,l.length<=(l.map λe=>(pP f e).length+1).sum/\∀e∈l,(pP f e).length<=(l.map λe=>(pP f e).length+1).sum:=λl=>by
  induction l with
  |nil=>grind
  |cons a r ih=>
   grind
 obtain⟨h4,h5⟩:=h3 es;rw[BH];simp only[É,Ñ,á];exact⟨ζ,λe he=>by have:=h5 e he;omega⟩
theorem WC{d y:pL}{k:By}(h:Ao d k=some y):qA d k=.ok y:=by
 unfold Ao at h;grind [Ao,qA]
section
variable{d x:Int}{f:Nat}{lv:Int}{q y:pL}{k:By}
theorem WA(h:pU d x (f+1) lv q)(hm:Ao q k=some y):pU d x f (lv+1) y/\(pP f y).length<=(pP (f+1) q).length:=Jj h (WC hm)
theorem fK{s:By}{o:Option pL}(h:BO o=some s):o=some (Av s):=by
 unfold BO at h;split at h
 .cases h;rfl
 .cases h
theorem VJ{s:By}(h:pU d x (f+1) lv q)(hm:BO (Ao q k)=some s):Ut s/\s.length<=(pP (f+1) q).length:=by
 obtain⟨h1,h2⟩:=WA h (fK hm);cases f with
 |zero=>exact h1.elim
 |succ f=>
  refine⟨?_,Ã jX h2⟩;obtain⟨_,h1⟩:=h1;rcases h1 with⟨k,_,e⟩|⟨s',hs,e⟩|⟨n,_,_,_,e⟩|⟨es,_,e⟩|⟨es,_,_,e⟩
  .cases e
  .cases e;exact hs
  .cases e
  .cases e
  .cases e
theorem Wd{p:List By}(h:pU d x (f+1) lv q)(hl:(pP (f+1) q).length<=100000)(hm:AA (Ao q k)=some p):sK p:=by
 unfold AA at hm;split at hm
 .rename_i s hs;obtain⟨h1,h2⟩:=VJ h hs;exact eA h1 ζ hm
 .cases hm
theorem gO{o:qH}(h:pU (d+2) x (f+2) 2 q)(hl:(pP (f+2) q).length<=80000)(hf:f+2<=top)(hd:d<=400)(hm:Bf q=some o):tY (d+2) x 200000 o:=by
 have q5:(pP (f+1+1) q).length<=80000:=hl;unfold Bf at hm;split at hm
 .cases hm
 .rename_i p hp;split at hm
  .cases hm
  .rename_i k hk;cases hm;obtain⟨k1,k2,k3⟩:=GI hk;refine⟨Wd h ζ hp,λh3=>?_,λh3=>?_⟩
   .have h4:=k3 h3;cases hq:AA (Ao q BS)with
    |none=>rw[hq]at h4;cases h4
    |some u=>exact Wd h ζ hq
   .have h4:=k2 h3;cases hq:Ao q AL with
    |none=>rw[hq]at h4;cases h4
    |some u=>
     obtain⟨h5,h6⟩:=WA h hq;have h7:=GP (s:=-2) h5;have h8:pU d x (f+1) 1 u:=by
      have e1:d+2 + -2=d:=ζ;have e2:(2:Int)+1 + -2=1:=ζ;rw[e1,e2]at h7;exact h7
     have h9:=Dh (D:=d+2) ζ h8;have q0:pU (d+2) x top 1 u:=CT h9 (by unfold top;omega);refine⟨q0,ζ,?_⟩;have q4:=(Dz h8).2;show pV top u<=200000;rw[F4 h8 ζ];omega
theorem PV:∀{es:List pL}{i:Nat}{l:List qH},(∀q∈es,pU (d+2) x (f+2) 2 q/\(pP (f+2) q).length<=80000)->f+2<=top->d<=400->Ba i es=.ok l->l.length=es.length/\∀o∈l,tY (d+2) x 200000 o
 |[],i,l,_,_,_,h=>by cases h;exact⟨rfl,λo ho=>by cases ho⟩
 |q::r,i,l,hq,hf,hd,h=>by
  unfold Ba at h;split at h
  .cases h
  .rename_i o ho;split at h
   .rename_i l' q0;cases h;obtain⟨h1,h2⟩:=PV (λq' q4=>hq q' (by simp[q4])) hf hd q0;obtain⟨h3,h4⟩:=hq q φ;exact⟨by simp[h1],λo' ho'=>(Ë.1 ho').elim (λe=>e▸gO h3 h4 hf hd ho) (h2 o')⟩
   .cases h
end
theorem Pv{d x:Int}{p:pL}(hg:pU (d+2) x top 1 p)(hl:(pP top p).length<=80000):∀es y,p=.slice es y->es.length<=80000/\∀q∈es,pU (d+2) x (top-1) 2 q/\(pP (top-1) q).length<=80000:=by
 intro es y e;obtain⟨_,hg⟩:=hg;rcases hg with⟨k,_,e1⟩|⟨s',hs,e1⟩|⟨n,_,_,_,e1⟩|⟨es',h,e1⟩|⟨es',_,_,e1⟩
 .rw[e1]at e;cases e
 .rw[e1]at e;cases e
 .rw[e1]at e;cases e
 .rw[e1]at e;cases e;subst e1;obtain⟨h1,h2⟩:=aQ (f:=top-1) (es:=es);have h3:(pP (top-1+1) (Ak es)).length<=80000:=hl;exact⟨ζ,λq hq=>⟨h q hq,ε⟩⟩
 .rw[e1]at e;cases e
theorem IV{d x:Int}{p:pL}{l:List qH}(hg:pU (d+2) x top 1 p)(hl:(pP top p).length<=80000)(hd:d<=400)(h:A7 p=.ok l):l.length<=80000/\∀o∈l,tY (d+2) x 200000 o:=by
 have hb:=Pv hg hl;unfold A7 at h;split at h
 .rename_i es y;obtain⟨h1,h2⟩:=hb es y rfl;obtain⟨h3,h4⟩:=PV (f:=top-3) h2 (by unfold top;omega) hd h;grind
 .cases h
theorem We{d x:Int}{p:pL}(hg:pU (d+2) x top 1 p)(hl:(pP top p).length<=80000):∀es y,p=.slice es y->es.length<=400000000/\∀q∈es,∀k s,BO (Ao q k)=some s->s.length<=1048576:=by
 intro es y e;obtain⟨h1,h2⟩:=Pv hg hl es y e;refine⟨ζ,λq hq k s hs=>?_⟩;obtain⟨h3,h4⟩:=h2 q hq;have:=(VJ (f:=top-2) h3 hs).2;have h5:(pP (top-2+1) q).length<=80000:=h4;omega
theorem GG{k:By}{p:Lit×D6 α}{es:List (Lit×D6 α)}:p∈qY (.string k) es<->p∈es/\p.1 ≠ .string k:=by
 unfold qY;rw[Đ];constructor
 .rintro⟨h1,h2⟩;refine⟨h1,λe=>?_⟩;rw[e,Fx.2 rfl]at h2;cases h2
 .rintro⟨h1,h2⟩;exact⟨h1,by rw[sameKey_ne h2];rfl⟩
theorem GF{k:By}{c:D6 α}{p:Lit×D6 α}{es:List (Lit×D6 α)}:p∈qI (.string k) c es<->p=(.string k,c)\/(p∈es/\p.1 ≠ .string k):=by
 rw[(DQ (.string k) c es).mem_iff,Ë,GG]
theorem SI:∀{l:List Nat}{a:Nat},a∈l->a<=l.sum
 |b::l,a,h=>by
  rw[Ĉ];rcases Ë.1 h with rfl|h
  .omega
  .have:=SI h;omega
theorem VH{f:Nat}{p:Lit×pL}(h:p∈es):(Ai (strOf p.1)).length+2+pV f p.2<=pV (f+1) (.map es):=by
 have h1:(Ai (strOf p.1)).length+2+pV f p.2<=(es.map λp=>(Ai (strOf p.1)).length+2+pV f p.2).sum:=SI ε;show _<=2+(es.map λp=>(Ai (strOf p.1)).length+2+pV f p.2).sum;omega
section
variable{d x:Int}
def sU(d x:Int)(f:Nat)(lv:Int)(es:List (Lit×pL)):Prop:=es.Pairwise (λp q=>p.1.before q.1=true)/\∀p∈es,(∃s,p.1=.string s/\Ut s)/\pU d x f (lv+1) p.2
theorem sU.skey{f:Nat}{lv:Int}(h:sU d x f lv es):AQ es:=⟨h.1,λp hp=>by obtain⟨s,e,_⟩:=(h.2 p hp).1;grind⟩
theorem GO{f:Nat}{lv:Int}(h:pU d x (f+1) lv (.map es)):lv<=d/\sU d x f lv es:=by
 obtain⟨h0,h⟩:=h;rcases h with⟨k,_,e⟩|⟨s,_,e⟩|⟨n,_,_,_,e⟩|⟨es',_,e⟩|⟨es',h1,h2,e⟩
 .cases e
 .cases e
 .cases e
 .cases e
 .cases e;exact⟨h0,h1,h2⟩
theorem sU.gd{f:Nat}{lv:Int}(h:sU d x f lv es)(h0:lv<=d):pU d x (f+1) lv (.map es):=⟨h0,À (À (À (À ⟨es,h.1,h.2,rfl⟩)))⟩
theorem sU.mdel{f:Nat}{lv:Int}(h:sU d x f lv es)(k:Lit):sU d x f lv (qY k es):=⟨h.1.filter _,λp hp=>h.2 p (Đ.1 hp).1⟩
theorem sU.mput{f:Nat}{lv:Int}{k:By}{c:pL}(h:sU d x f lv es)(hk:Ut k)(hc:pU d x f (lv+1) c):sU d x f lv (qI (.string k) c es):=by
 refine⟨(BP h.skey).1,λp hp=>?_⟩;rcases GF.1 hp with rfl|⟨hp,_⟩
 .grind
 .exact h.2 p hp
theorem Ku:∀{f:Nat}{lv:Int}{p:pL},pU d x f lv p->pU d x f lv (Ee f p)
 |0,_,_,h=>h.elim
 |f+1,lv,p,h=>by
  cases hob:Eh p with
  |false=>rw[NN hob];exact h
  |true=>
   obtain⟨es,rfl⟩:∃es,p=.map es:=by
    cases p<;>first|exact⟨_,rfl⟩|cases hob
   obtain⟨h0,hm⟩:=GO h;refine sU.gd (es:=uB f es) ⟨?_,λq hq=>?_⟩ h0
   .unfold uB;rw[Ć];exact hm.1.filter _
   .unfold uB at hq;obtain⟨p,hp,rfl⟩:=Ò.1 hq;have h2:=hm.2 p (Đ.1 hp).1;exact⟨h2.1,Ku h2.2⟩
def vH(d x:Int)(B P:Nat)(o:pW):Prop:=o.1<3/\(o.2.1.map λt=>t.length+1).sum<=P/\(o.1≠1 ->∃f lv,1<=lv/\pU d x f lv o.2.2/\pV f o.2.2<=B)
theorem vH.mono{B P P':Nat}{o:pW}(h:vH d x B P o)(hP:P<=P'):vH d x B P' o:=⟨h.1,Ã h.2.1 hP,h.2.2⟩
def dI(d x:Int)(f:Nat):Prop:=∀(lv:Int) (o:Option pL) (s:List By) (p:pL) (B:Nat),1<=lv->(∀v,o=some v->pU d x f lv v/\pV f v<=B)->pU d x f lv p ->
 pU d x f lv (qQ f o s p).1/\(∀q∈(qQ f o s p).2,vH d x B ((s.map λt=>t.length+1).sum+pV f p) q)/\(qQ f o s p).2.length<=pV f p
theorem WZ{f:Nat}{lv:Int}{k:By}{v:pL}(h:sU d x f lv es)(hg:Aq es (.string k)=some v):(AS k,v)∈es:=by
 rcases Gk es k with⟨c,hc⟩|hn
 .rw[Bi h.skey hc]at hg;grind
 .rw[B9 hn]at hg;cases hg
theorem MW{f:Nat}(ih:dI d x f){lv:Int}(q5:1<=lv){B:Nat}(s:List By):∀(l es:List (Lit×pL)),sU d x f lv es->sU d x f lv l->(∀q∈l,∀c,(q.1,c)∈es->pV f c<=B) ->
  sU d x f lv (Dg (qQ f) s l es).1/\(∀q∈(Dg (qQ f) s l es).2,vH d x B ((s.map λt=>t.length+1).sum+(l.map λp=>(Ai (strOf p.1)).length+2+pV f p.2).sum) q)/\(Dg (qQ f) s l es).2.length<=(l.map λp=>(Ai (strOf p.1)).length+2+pV f p.2).sum
 |[],es,he,_,_=>⟨he,(λq hq=>by cases hq),Á _⟩
 |q::l,es,he,hl,hB=>by
  obtain⟨⟨k,ek,hk⟩,hq⟩:=hl.2 q â;obtain⟨qk,qv⟩:=q;simp only at ek hq;subst ek;have hp:=ô.1 hl.1;have q4:sU d x f lv l:=⟨hp.2,λp hp=>hl.2 p (Ø _ hp)⟩
  have hne:∀p∈l,p.1≠AS k:=λp q0 e=>by
   grind [Gb,strOf,B2]
  have hv:∀v,Aq es (.string k)=some v->pU d x f (lv+1) v/\pV f v<=B:=λv hg=>by
   have hm:=WZ he hg;exact⟨(he.2 _ hm).2,hB _ â _ hm⟩
  have q6:sU d x f lv (Cq (qQ f) s (.string k,qv) es).1/\(∀r∈(Cq (qQ f) s (.string k,qv) es).2,vH d x B ((s.map λt=>t.length+1).sum+((Ai k).length+2+pV f qv)) r)/\(Cq (qQ f) s (.string k,qv) es).2.length<=(Ai k).length+2+pV f qv/\∀p∈l,∀c,(p.1,c)∈(Cq (qQ f) s (.string k,qv) es).1->(p.1,c)∈es:=by
   have q8:((s++[k]).map λt=>t.length+1).sum=(s.map λt=>t.length+1).sum+(k.length+1):=Gz s k;have q7:=Sj k;unfold Cq;by_cases hn:tJ qv=true
   .rw[if_pos hn];simp only;cases hg:Aq es (.string k)with
    |none=>grind
    |some o=>
     obtain⟨g1,g2⟩:=hv o hg;refine⟨he.mdel _,λr hr=>?_,ω,λp _ c h=>(GG.1 h).1⟩;obtain rfl:r=(0,s++[GL (.string k)],o):=ε;refine⟨ζ,?_,ε⟩;show((s++[k]).map λt=>t.length+1).sum<=_;omega
   .rw[if_neg hn];simp only;obtain⟨g1,g2,g3⟩:=ih (lv+1) (Aq es (.string k)) (s++[k]) qv B ζ hv hq;refine⟨he.mput hk g1,λr hr=>(g2 r hr).mono ?_,Ã g3 ζ,λp q0 c h=>?_⟩
    .omega
    .rcases GF.1 h with e|h
     .grind
     grind
  obtain⟨s1,s2,s3,s4⟩:=q6;obtain⟨r1,r2,r3⟩:=MW ih q5 s l _ s1 q4 λp q0 c h=>hB p (Ø _ q0) c (s4 p q0 c h);have e0:(((AS k,qv)::l).map λp=>(Ai (strOf p.1)).length+2+pV f p.2).sum=((Ai k).length+2+pV f qv)+(l.map λp=>(Ai (strOf p.1)).length+2+pV f p.2).sum:=θ;rw[e0];refine⟨r1,λr hr=>?_,?_⟩
  .rcases ó.1 hr with h|h
   .exact (s2 r h).mono ζ
   .exact (r2 r h).mono ζ
  .unfold Dg;grind
theorem jW:∀{f:Nat}{lv:Int}{v:pL},pU d x f lv v->1<=pV f v
 |0,_,_,h=>h.elim
 |f+1,lv,v,h=>by
  obtain⟨_,h⟩:=h;rcases h with⟨k,hk,rfl⟩|⟨s,_,rfl⟩|⟨n,_,_,_,rfl⟩|⟨es,_,rfl⟩|⟨es,_,_,rfl⟩
  .match k,hk with
   |0,_=>exact ŏ (Ď 3)
   |1,_=>exact ŏ (Ď 3)
   |2,_=>exact ŏ (Ď 4)
  .show 1<=(pP (f+1) (Av s)).length;show 1<=(Ai s).length;simp[Ai]
  .show 1<=(pP (f+1) (Bm n)).length;show 1<=(BI n).length;grind [Ai,B2,Ig,FH,BI]
  .rw[Ig];omega
  .rw[FH];omega
theorem PN:∀f:Nat,dI d x f
 |0=>λlv o s p B _ _ h=>h.elim
 |f+1=>λlv o s p B q4 ho hp=>by
  have q0:∀w:pL,o=some w->(Eh w=false\/Eh p=false)->qQ (f+1) o s p=(Ee (f+1) p,[(2,s,w)]):=λw e h=>by
   subst e;cases w<;>cases p<;>first|rfl|(rcases h with h|h<;>cases h)
  have h1:=jW hp;cases o with
  |none=>
   refine⟨Ku hp,λq hq=>?_,h1⟩;obtain rfl:q=(1,s,.nil):=by simpa[qQ]using hq
   exact⟨ζ,φ,λh=>absurd rfl h⟩
  |some v=>
   obtain⟨gv,sv⟩:=ho v rfl;cases ob:Eh v with
   |false=>
    rw[q0 v rfl (Å ob)];refine⟨Ku hp,λq hq=>?_,h1⟩;obtain rfl:q=(2,s,v):=ε;exact⟨ζ,φ,ε⟩
   |true=>
    cases pb:Eh p with
    |false=>
     rw[q0 v rfl (À pb)];refine⟨Ku hp,λq hq=>?_,h1⟩;obtain rfl:q=(2,s,v):=ε;exact⟨ζ,φ,ε⟩
    |true=>
     obtain⟨es,rfl⟩:∃es,v=.map es:=by
      cases v<;>first|exact⟨_,rfl⟩|cases ob
     obtain⟨ps,rfl⟩:∃ps,p=.map ps:=by
      cases p<;>first|exact⟨_,rfl⟩|cases pb
     obtain⟨h0,hm⟩:=GO gv;obtain⟨_,q5⟩:=GO hp;have he:qQ (f+1) (some (.map es)) s (.map ps)=H7 (qQ f) s ps es:=rfl;rw[he,Gi];have hsz:(ps.map λp=>(Ai (strOf p.1)).length+2+pV f p.2).sum<=pV (f+1) (.map ps):=IS _ 2;obtain⟨r1,r2,r3⟩:=MW (PN f) q4 (B:=B) s ps es hm q5 λq _ c hc=>by
      have:=VH (f:=f) hc;grind
     exact⟨r1.gd h0,λq hq=>(r2 q hq).mono ε,Ã r3 hsz⟩
end
def Jz(f:Nat)(F:Nat->Prop)(w:AI)(v:Bs)(o:Option pL):Prop:=match o with
 |none=>v=.pointer none
 |some d=>Rep f F w v d
theorem Jz.ptr{f:Nat}{F:Nat->Prop}{w:AI}{v:Bs}{o:Option pL}(h:Jz f F w v o):∃p,v=.pointer p:=by
 cases o with
 |none=>exact⟨_,h⟩
 |some d=>obtain⟨b,e,_⟩:=Rep.ptr h;grind
theorem Jz.bel{f:Nat}{F:Nat->Prop}{w w':AI}{v:Bs}{o:Option pL}(h:Jz f F w v o)(hb:Bl w w'):Jz f F w' v o:=by
 cases o with
 |none=>exact h
 |some d=>exact Rep.bel h hb
theorem Wj{d:pL}(h:∀es,d ≠ .map es)(k:By):Ao d k=none:=by
 unfold Ao;grind
theorem YT{f:Nat}{F:Nat->Prop}{w:AI}{v:Bs}{d:pL}(h:Rep (f+1) F w v d):∃b n x s sl mv,v=PtB b/\VB w b x n s sl mv/\
  ∀key:By,key.length<=1048576 ->∃y,Jz f F w y (Ao d key)/\∀w',Bl w w' ->
   (DA 109 mv (.string ⟨key.toArray⟩) true).run AT w'=.ok (.tuple #[y,.bool (Ao d key).isSome]) w'/\
   (DA 109 mv (.string ⟨key.toArray⟩) false).run AT w'=.ok y w':=by
 have q4:∀key:By,key.length<=1048576->(∀es,d ≠ .map es) ->∃y,Jz f F w y (Ao d key)/\∀w',Bl w w' ->
   (DA 109 (.map none) (.string ⟨key.toArray⟩) true).run AT w'=.ok (.tuple #[y,.bool (Ao d key).isSome]) w'/\
   (DA 109 (.map none) (.string ⟨key.toArray⟩) false).run AT w'=.ok y w':=by
  intro key hk hd;rw[Wj hd];exact⟨_,rfl,λw' _=>⟨I4 true C9 underlying109 (DI w') (Gy key hk),I4 false C9 underlying109 (DI w') (Gy key hk)⟩⟩
 obtain⟨b,rfl,hb,h⟩:=h;rcases h with⟨k,_,rfl,h⟩|⟨n,rfl,h,_⟩|⟨s,rfl,h⟩|⟨es,sl,ps,rfl,h,_⟩|⟨es,m,n,D,rfl,h,q9,ho,hp⟩
 .grind [Ao,Ap,BG]
 .exact⟨b,_,_,_,_,_,rfl,h,λkey hk=>q4 key hk (by simp[Bm])⟩
 .exact⟨b,_,_,_,_,_,rfl,h,λkey hk=>q4 key hk (by simp[Av])⟩
 .exact⟨b,_,_,_,_,_,rfl,h,λkey hk=>q4 key hk (by simp[Ak])⟩
 .refine⟨b,_,_,_,_,_,rfl,h,λkey hk=>?_⟩;have q6:=CV ho;have q0:=Gy key hk;have hh:=hp.has (.string key);cases hc:has (.map D:D6 Bs) (.string key)with
  |false=>
   have e1:Ao (Ap es) key=none:=by
    grind [Ao,Ap,BG]
   rw[e1];refine⟨.pointer none,rfl,λw' q5=>?_⟩;have ho':=A0 ho (q5.block m q6);obtain⟨v1,q7,r1,q1⟩:=ho'.look_ok C9 underlying109 (DI w') (zd:=.held (.pointer none)) (zp:=[]) rfl q0;obtain⟨v2,q8,r2,q2⟩:=ho'.lookup C9 underlying109 (DI w') (zd:=.held (.pointer none)) (zp:=[]) rfl q0;obtain⟨rfl,_⟩:=Eb q1 (HZ hc _);obtain⟨rfl,_⟩:=Eb q2 (HZ hc _);grind
  |true=>
   obtain⟨x,e4,hx⟩:=hp.at (.string key) hc;have e1:Ao (Ap es) key=some ((DD es).atKey (.string key) .nil):=by
    grind [Ao,Ap,BG]
   rw[e1];refine⟨x,hx,λw' q5=>?_⟩;have ho':=A0 ho (q5.block m q6);obtain⟨v1,q7,r1,q1⟩:=ho'.look_ok C9 underlying109 (DI w') (zd:=.held (.pointer none)) (zp:=[]) rfl q0;obtain⟨v2,q8,r2,q2⟩:=ho'.lookup C9 underlying109 (DI w') (zd:=.held (.pointer none)) (zp:=[]) rfl q0;obtain⟨rfl,_⟩:=Eb q1 (e4 _);obtain⟨rfl,_⟩:=Eb q2 (e4 _);grind
section
variable{f:Nat}{F:Nat->Prop}{w:AI}{v:Bs}{o:Option pL}
def TH(r:Option By):Bs:=.tuple #[.string ⟨(r.getD []).toArray⟩,.bool r.isSome]
theorem R9(h:Jz f F w v o):CL AT 149 #[v] w λe w'=>e=.returned (TH (BO o))/\w'=w:=by
 cases o with
 |none=>
  obtain rfl:v=.pointer none:=h;go_enter func149,ntmps149;go_wp2;go_ret2;exact⟨rfl,rfl⟩
 |some d=>
  cases f with
  |zero=>exact h.elim
  |succ f=>
   obtain⟨b,rfl,hb,h⟩:=h;obtain⟨x,n,s,sl,mv,hv,hx⟩:∃(x:Nat) (n:Nm) (s:By) (sl mv:Bs),VB w b x n s sl mv/\((x=4/\BO (some d)=some s)\/(x≠4/\BO (some d)=none)):=by
    rcases h with⟨k,hk,rfl,h⟩|⟨n,rfl,h,_⟩|⟨s,rfl,h⟩|⟨es,sl,ps,rfl,h,_⟩|⟨es,m,n,D,rfl,h,_⟩
    .exact⟨k,_,_,_,_,h,À ⟨ζ,rfl⟩⟩
    .exact⟨3,_,_,_,_,h,À ⟨ζ,rfl⟩⟩
    .exact⟨4,_,_,_,_,h,Å ⟨rfl,rfl⟩⟩
    .exact⟨5,_,_,_,_,h,À ⟨ζ,rfl⟩⟩
    .exact⟨6,_,_,_,_,h,À ⟨ζ,rfl⟩⟩
   have c0:=hv.c0;have c4:=hv.c4;clear h hb hv;rcases hx with⟨rfl,e⟩|⟨hne,e⟩
   .rw[e];clear e;go_enter func149,ntmps149;go_wp2;go_ret2;exact⟨rfl,rfl⟩
   .rw[e];have e1:((x:Int)!=4)=true:=ε;have e2:((x:Int)==4)=false:=ε;clear e hne c4;go_enter func149,ntmps149;go_wp2;go_ret2;exact⟨rfl,rfl⟩
end
def Bh(f:Nat)(l:List (Lit×pL)):Nat:=(l.map λp=>(Ai (strOf p.1)).length+2+pV f p.2).sum
theorem Mm{α:Type}(x:Lit×D6 α):∀l:List (Lit×D6 α),(BY x l).length=l.length+1
 |[]=>rfl
 |a::l=>by
  unfold BY;split
  .rfl
  .rw[É,Mm x l];rfl
theorem Zr(k:Lit)(c:D6 α)(es:List (Lit×D6 α)):(qI k c es).length<=es.length+1:=by
 grind [Mm,qI]
theorem Cz(f:Nat)(p:Lit×pL)(l:List (Lit×pL)):Bh f (p::l)=(Ai (strOf p.1)).length+2+pV f p.2+Bh f l:=by
 rfl
theorem DY(f:Nat)(P:Lit×pL->Bool):∀l:List (Lit×pL),Bh f (l.filter P)<=Bh f l
 |[]=>Á _
 |p::l=>by
  have h:=DY f P l;rw[Ġ,Cz];split
  .rw[Cz];omega
  .omega
theorem Mz{f:Nat}{k:By}{v:pL}:∀{es:List (Lit×pL)},(AS k,v)∈es->Bh f (qY (.string k) es)+((Ai k).length+2+pV f v)<=Bh f es
 |p::r,h=>by
  rw[Cz];unfold qY;rw[Ġ];rcases Ë.1 h with rfl|h
  .rw[if_neg (by simp[Fx.2 rfl])];have:=DY f (λp=>!p.1.sameKey (.string k)) r;exact Ã (C5 this _) (Nat.le_of_eq (G3 _ _))
  .have:=Mz (f:=f) h;unfold qY at this;split
   .rw[Cz];omega
   .omega
theorem Kj(f:Nat)(x:Lit×pL):∀l:List (Lit×pL),Bh f (BY x l)=(Ai (strOf x.1)).length+2+pV f x.2+Bh f l
 |[]=>θ
 |a::l=>by
  unfold BY;split
  .rfl
  .rw[Cz,Kj f x l,Cz];omega
theorem Js(f:Nat)(k:By)(c:pL)(es:List (Lit×pL)):Bh f (qI (.string k) c es)=(Ai k).length+2+pV f c+Bh f (qY (.string k) es):=by
 unfold qI;rw[Kj];rfl
theorem Sn:∀(f:Nat) (p:pL),pV f (Ee f p)<=pV f p
 |0,_=>Á _
 |f+1,p=>by
  cases hob:Eh p with
  |false=>rw[NN hob];omega
  |true=>
   obtain⟨ps,rfl⟩:∃ps,p=.map ps:=by
    cases p with
    |map ps=>grind
    |_=>cases hob
   show 2+Bh f ((ps.filter λq=>!tJ q.2).map λq=>(q.1,Ee f q.2))<=2+Bh f ps;have h1:∀l:List (Lit×pL),Bh f (l.map λq=>(q.1,Ee f q.2))<=Bh f l:=by
    intro l;induction l with
    |nil=>grind
    |cons a l ih=>
     rw[Ð,Cz,Cz];have:=Sn f a.2;grind
   have h2:=DY f (λq=>!tJ q.2) ps;grind
section
variable{d x:Int}
def vK(f:Nat)(o:Option pL):Nat:=match o with
 |some v=>pV f v
 |none=>0
def dH(d x:Int)(f:Nat):Prop:=∀(lv:Int) (o:Option pL) (s:List By) (p:pL),1<=lv->(∀v,o=some v->pU d x f lv v)->pU d x f lv p->pV f (qQ f o s p).1<=vK f o+pV f p
theorem WB{f:Nat}{p:Lit×pL}(h:p∈es):pV f p.2<=Bh f es:=by
 have h1:=VH (f:=f) h;have h2:pV (f+1) (.map es)=2+Bh f es:=FH f es;omega
theorem SN{f:Nat}(ih:dH d x f){lv:Int}(q0:1<=lv)(s:List By):∀(l es:List (Lit×pL)),sU d x f lv es->sU d x f lv l->Bh f (Dg (qQ f) s l es).1<=Bh f es+Bh f l
 |[],es,_,_=>Á _
 |q::l,es,he,hl=>by
  have q4:sU d x f lv [q]:=⟨List.pairwise_singleton _ _,λp hp=>hl.2 p ε⟩
  have h1:sU d x f lv (Cq (qQ f) s q es).1:=(MW (PN f) q0 (B:=Bh f es) s [q] es he q4 λr _ c hc=>WB hc).1;have h2:=SN ih q0 s l (Cq (qQ f) s q es).1 h1 ⟨(ô.1 hl.1).2,λp hp=>hl.2 p (Ø _ hp)⟩;obtain⟨⟨k,ek,_⟩,hq⟩:=hl.2 q â;obtain⟨qk,qv⟩:=q;simp only at ek hq;subst ek;have h3:Bh f (Cq (qQ f) s (.string k,qv) es).1<=Bh f es+((Ai k).length+2+pV f qv):=by
   unfold Cq;split
   .split
    .grind
    .have:=DY f (λp=>!p.1.sameKey (.string k)) es;exact Ã this (Nat.le_add_right _ _)
   .simp only;rw[Js];cases hg:Aq es (.string k)with
    |none=>
     have h4:=ih (lv+1) none (s++[GL (.string k)]) qv ζ (λv h=>by cases h) hq;have h5:=DY f (λp=>!p.1.sameKey (.string k)) es;have h6:Bh f (qY (.string k) es)<=Bh f es:=h5;grind [vK,Js,Cq]
    |some o=>
     have hm:=WZ he hg;have h4:=ih (lv+1) (some o) (s++[GL (.string k)]) qv ζ (λv h=>by injection h with h;exact h▸(he.2 _ hm).2) hq;have h5:=Mz (f:=f) hm;grind [vK,Js,Cq]
  have h4:Bh f ((AS k,qv)::l)=(Ai k).length+2+pV f qv+Bh f l:=Cz _ _ _;show Bh f (Dg (qQ f) s l (Cq (qQ f) s (.string k,qv) es).1).1<=_;omega
theorem Ww:∀f:Nat,dH d x f
 |0=>λ_ _ _ _ _ _ h=>h.elim
 |f+1=>λlv o s p q0 ho hp=>by
  have hps:=Sn (f+1) p;cases o with
  |none=>exact Ã hps (IS _ _)
  |some v=>
   by_cases hob:Eh v=true/\Eh p=true
   .obtain⟨h1,h2⟩:=hob;obtain⟨es,rfl⟩:∃es,v=.map es:=by
     cases v with
     |map es=>grind
     |_=>cases h1
    obtain⟨ps,rfl⟩:∃ps,p=.map ps:=by
     cases p with
     |map ps=>grind
     |_=>cases h2
    have e:qQ (f+1) (some (.map es)) s (.map ps)=(.map (Dg (qQ f) s ps es).1,(Dg (qQ f) s ps es).2):=Gi _ _ _ _;rw[e];have h3:=SN (Ww f) q0 s ps es (GO (ho _ rfl)).2 (GO hp).2;show 2+Bh f (Dg (qQ f) s ps es).1<=(2+Bh f es)+(2+Bh f ps)
    omega
   .have e:(qQ (f+1) (some v) s p).1=Ee (f+1) p:=by
     cases v<;>cases p<;>first|rfl|exact absurd ⟨rfl,rfl⟩ hob
    grind
end
theorem Z1{k j:By}{xs:List (Lit×pL)}(h:AQ xs)(hne:j≠k):Aq (qY (.string k) xs) (.string j)=Aq xs (.string j):=by
 rcases Gk xs j with⟨c,hc⟩|hno
 .rw[Bi h hc,Bi (DT h) (GG.2 ⟨hc,λe=>hne (by injection e)⟩)]
 .rw[B9 hno,B9 λp hp=>hno p (GG.1 hp).1]
section
variable{f:Nat}{F:Nat->Prop}{w:AI}{v:Bs}{o:Option pL}
theorem Sq(h:Jz f F w v o)(hs:∀s,BO o=some s->s.length<=1048576)(hT:Aj w):
  CL AT 148 #[v] w λe w'=>Il w.1.size (AA o) e w'/\Bl w w':=by
 have HC:=Ab (R9 h);obtain⟨p,rfl⟩:=h.ptr;unfold AA;clear h;cases hp:BO o with
 |none=>
  rw[hp]at HC;clear hp hs hT;go_enter func148,ntmps148;go_wp2_with fail;refine HC.u.mono ?_;rintro e w' ⟨rfl,rfl⟩;unfold TH;simp only[H2,F5];go_wp2;go_ret2;exact⟨rfl,Â _ _⟩
 |some s=>
  rw[hp]at HC;have HR:=Ab (NU (hs s hp) hT hT.pesc hT.mx);clear hp hs hT;go_enter func148,ntmps148;go_wp2_with fail;refine HC.u.mono ?_;rintro e w' ⟨rfl,rfl⟩;unfold TH;simp only[Ģ,G1];go_wp2_with fail;refine HR.u.mono ?_;rintro e w2⟨hn,hb⟩;cases ht:qX s with
  |none=>
   rw[ht]at hn;obtain rfl:e=.returned (.tuple #[.slice none 0 0,.bool false]):=hn;go_wp2;go_ret2;refine⟨?_,hb⟩;show Il _ (qX s) _ _;rw[ht];rfl
  |some ks=>
   rw[ht]at hn;obtain⟨u,rfl,h1,h2⟩:=hn;have H:=Ab (show Il _ (some ks) (.returned (.tuple #[u,.bool true])) w2/\_ from⟨⟨u,rfl,h1,h2⟩,hb⟩);have q0:=Ab ht;clear h1 h2 hb ht;go_wp2;go_ret2;refine⟨?_,H.u.2⟩;show Il _ (qX s) _ _;rw[q0.u];exact H.u.1
end
theorem Fw{P:Program}{w:AI}{ops:Array Oper}{rest:List Oper}{o:Oper}{a:Act}{Q:Exit->Act->AI->Prop}(hg:o.guard=none)(m x:Operand)(t:TypeId)(c:Bool)(q5:o.op=Op.lookup t m x c)(mv key r:Bs)(hm:a.eval m=mv)(hx:a.eval x=key)(q0:(DA t mv key c).run P w=.ok r w)(hK:wpList P ops Q rest (a.put o.dst r) w):wpList P ops Q (o::rest) a w:=by
 refine wpList_plain hg λK' q4=>?_;unfold Oper.wp;simp[execOp,q5,hm,hx,q0,Result.andThen];exact q4 _ _ hK
theorem RW{w:AI}{v:Bs}(h:Dl w v l)(hg:∀g,v.ownBlock=some g->G g):Bd w G v l:=by
 rcases h with h|⟨g,o,cap,rfl,h2,h3,h4⟩
 .exact Å h
 .exact À ⟨g,o,cap,rfl,h2,h3,hg g rfl,h4⟩
theorem F1{w:AI}{v:Bs}(h:Bd w G v l):∃a n c,v=.slice a n c:=by
 rcases h with⟨_,a,c,rfl,_⟩|⟨g,o,cap,rfl,_⟩
 .grind
 grind
theorem OpB.fz{w:AI}{q k:Nat}{pa fa y:Option Addr}{pl pc fl fc:Nat}(h:OpB w q k pa pl pc fa fl fc y)(i:Nat):w.frozen? ⟨q,i,none⟩=false:=Lib.frozen_of_heap h i
def Gl(F:Nat->Prop)(d:pL)(w:AI)(e:F2)(w':AI):Prop:=match Bf d with
 |none=>e=.returned (.tuple #[opV 0 none 0 0 none 0 0 none,.bool false])
 |some o=>∃pa pl pc fa fl fc y,e=.returned (.tuple #[opV o.1 pa pl pc fa fl fc y,.bool true])/\Jx w' (λk=>(F k/\k<w.1.size)\/w.1.size<k) o pa pl pc fa fl fc y
theorem QY{q:Nat}(a b c d:Bs)(k:Nat)(hk:k≠q):((((W.setCell ⟨q,0,none⟩ a).setCell ⟨q,1,none⟩ b).setCell ⟨q,2,none⟩ c).setCell ⟨q,3,none⟩ d).1[k]?=W.1[k]? :=
 (Æ _ _ _ _ hk).trans ((Æ _ _ _ _ hk).trans ((Æ _ _ _ _ hk).trans (Æ _ _ _ _ hk)))
theorem Hy{B q:Nat}{w:AI}(h:I5 B w W)(hq:B<=q)(a b c d:Bs):I5 B w ((((W.setCell ⟨q,0,none⟩ a).setCell ⟨q,1,none⟩ b).setCell ⟨q,2,none⟩ c).setCell ⟨q,3,none⟩ d):=
 (((h.setCell (p:=⟨q,0,none⟩) hq _).setCell (p:=⟨q,1,none⟩) hq _).setCell (p:=⟨q,2,none⟩) hq _).setCell (p:=⟨q,3,none⟩) hq _
section
variable{f:Nat}{F:Nat->Prop}{w:AI}{v:Bs}{d:pL}{m:Nat}
theorem ZO(h:Rep (f+1) F w v d)(hf:f<=top)(hs:∀k s,BO (Ao d k)=some s->s.length<=1048576)(hm:w.ownsMap AT 219 KE m 6 (nD 6))(hT:Aj w):
  CL AT 115 #[.map (some m),v] w λe w'=>Gl F d w e w'/\Bl w w':=by
 obtain⟨b,n,x,s,sl,mv,rfl,hv,hk⟩:=YT h;obtain⟨y1,r1,l1⟩:=hk A8 η;obtain⟨y2,r2,l2⟩:=hk BS η;obtain⟨y3,r3,l3⟩:=hk AL η;obtain⟨y4,r4,l4⟩:=hk rS η;have zf:=hv.lt;have zi:m<w.1.size:=by obtain⟨es,ze,hb,_⟩:=hm;grind
 obtain⟨W0,qf⟩:∃W0,W0=w.alloc (.cells #[.int .i64 0,.slice none 0 0,.slice none 0 0,.pointer none] 178):=⟨_,rfl⟩
 have q5:I5 w.1.size w W0:=by rw[qf];exact(Â _ _).alloc (Á _) _
 have qq:W0.1.size=w.1.size+1:=κ;have z2:OpB W0 w.1.size 0 none 0 0 none 0 0 none:=by rw[qf];exact Ê w _
 obtain⟨q,hq⟩:∃q,q=w.1.size:=⟨_,rfl⟩
 rw[<-hq]at q5 qq z2;have HV:=Ab hv;have z4:=Ab q5;have qj:=Ab qq;have zr:=Ab z2;have qv:=Ab (hT.below (q5.mono (by rw[hq];exact hT.ng)));have H1:=Ab (r1.bel (show I5 w.1.size w _ from hq▸q5));have zo:=Ab (Sq (r1.bel (show I5 w.1.size w _ from hq▸q5)) ε qv.u);have R2:=Ab r2;have R3:=Ab r3;have R4:=Ab r4;have L1:=Ab (λw' (hb:I5 q w w')=>(l1 w' (show I5 w.1.size w w' from hq▸hb)).2);have L2:=Ab (λw' (hb:I5 q w w')=>(l2 w' (show I5 w.1.size w w' from hq▸hb)).2);have L3:=Ab (λw' (hb:I5 q w w')=>(l3 w' (show I5 w.1.size w w' from hq▸hb)).1);have L4:=Ab (λw' (hb:I5 q w w')=>(l4 w' (show I5 w.1.size w w' from hq▸hb)).2);have HM:=Ab hm;have zn:=Ab zi;have HQ:=Ab hq;have zb:=Ab qf;have za:=Ab hs;have z5:=Ab zf;have qw:=(hv.kept (q5.block b ζ)).c6;obtain⟨p1,rfl⟩:=r1.ptr;obtain⟨p2,rfl⟩:=r2.ptr;obtain⟨p3,rfl⟩:=r3.ptr;obtain⟨p4,rfl⟩:=r4.ptr;obtain⟨E,hE⟩:∃E,E=Gl F d w:=⟨_,rfl⟩
 rw[<-hE];have HE:=Ab hE;clear hE;unfold Bl;rw[<-HQ.u];rw[qf]at qw;have c6:=qw;clear h hk hs hm hT r1 r2 r3 r4 l1 l2 l3 l4 hv zf zi q5 qq z2 hq qf qw;go_enter func115,ntmps115;go_wp2_with (first|(at_lookup;refine Fw rfl _ _ 109 false rfl _ _ _ rfl rfl (L1.u _ (zb.u▸z4.u)) ?_));rw[<-zb.u,<-HQ.u];have qu:=Ab (show q<=W0.1.size by have:=qj.u;omega);refine zo.u.mono ?_;rintro e W1⟨qn,hb1⟩;have q8:=Ab (z4.u.trans (hb1.mono qu.u));have q0:OpB W1 q 0 none 0 0 none 0 0 none:=(hb1.block q (by have:=qj.u;omega)).trans zr.u;have qk:=Ab hb1.size;cases hpp:AA (Ao d A8)with
 |none=>
  rw[hpp]at qn;obtain rfl:e=.returned (.tuple #[.slice none 0 0,.bool false]):=qn;have g0:=q0.c0;have g1:=q0.c1;have g2:=q0.c2;have g3:=q0.c3;have z:=q0.fz;have qd:=Ab (show Bf d=none by unfold Bf;rw[hpp]);clear hb1 q0 hpp c6;go_wp2_with fail;refine Ì (v:=.tuple #[opV 0 none 0 0 none 0 0 none,.bool false]) (by simp[CH,results115,go_sem,g0,g1,g2,g3]) rfl ?_;refine⟨?_,Hy q8.u (Á _) _ _ _ _⟩;rw[HE.u,Gl,qd.u]
 |some p=>
  rw[hpp]at qn;obtain⟨u,rfl,zk,zh⟩:=qn;have qe:=Ab (RW zk (G:=λk=>W0.1.size<=k) zh);obtain⟨pa,pl,pc,rfl⟩:=F1 qe.u;have zu:=(HV.u.kept (q8.u.block b (by have:=z5.u;have:=HQ.u;omega))).c6;have qy:Aj W1:=qv.u.below (hb1.mono qv.u.ng);have zx:=Ab qy;have zt:=Ab q0;have zq:=Ab (Sq (R2.u.bel (show I5 w.1.size w _ from HQ.u▸q8.u)) (λs' zv=>za.u _ s' zv) qy);have z8:=Ab hpp;clear zk zh hpp c6 hb1 q0 qy;go_wp2_with (first|(at_lookup;refine Fw rfl _ _ 109 false rfl _ _ _ rfl rfl (L2.u _ q8.u) ?_));refine zq.u.mono ?_;rintro e W2⟨qh,hb2⟩;obtain⟨fa,fl,fc,rfl,zg⟩:∃fa fl fc,e=.returned (.tuple #[.slice fa fl fc,.bool (AA (Ao d BS)).isSome])/\∀t,AA (Ao d BS)=some t->Bd W2 (λk=>W1.1.size<=k) (.slice fa fl fc) t:=by
   cases hf2:AA (Ao d BS)with
   |none=>
    rw[hf2]at qh;exact⟨none,0,0,qh,λt h=>by cases h⟩
   |some t2=>
    rw[hf2]at qh;obtain⟨u,rfl,zw,hg2⟩:=qh;have z3:=RW zw (G:=λk=>W1.1.size<=k) hg2;obtain⟨fa,fl,fc,rfl⟩:=F1 z3;grind
  have zl:=Ab zg;have qg:q<=W1.1.size:=Ã qu.u qk.u;have q6:=Ab (q8.u.trans (hb2.mono qg));have q4:=Ab hb2;have zz:=(HV.u.kept (q6.u.block b (by have:=z5.u;have:=HQ.u;omega))).c6;have z6:=J7 HM.u (q6.u.block m (by have:=zn.u;have:=HQ.u;omega));have qb:=Ab (R9 (R4.u.bel (show I5 w.1.size w _ from HQ.u▸q6.u)));have z9:=Ab (show OpB W2 q 0 none 0 0 none 0 0 none from(hb2.block q (by have:=qk.u;have:=qj.u;omega)).trans zt.u);obtain⟨bf,qz⟩:∃bf,bf=(AA (Ao d BS)).isSome:=⟨_,rfl⟩
  obtain⟨bv,z0⟩:∃bv,bv=(Ao d AL).isSome:=⟨_,rfl⟩
  obtain⟨nm,qo⟩:∃nm,nm=(BO (Ao d rS)).getD []:=⟨_,rfl⟩
  have zj:nm.length<=1048576:=by
   rw[qo];cases h:BO (Ao d rS)with
   |none=>simp
   |some s'=>exact za.u _ s' h
  have HF:=Ab (aD z6 (x:=(nm,bv,bf)) zj);rw[wO]at HF;unfold nv at HF;simp only at HF;unfold TH at qb;rw[<-qo]at qb;obtain⟨b4,hb4⟩:∃b4,b4=(BO (Ao d rS)).isSome:=⟨_,rfl⟩
  rw[<-hb4]at qb;rw[<-qz];have zc:=Ab (L3.u _ q6.u);rw[<-z0]at zc;have qr:=Ab qz;have qt:=Ab z0;have z7:=Ab qo;clear qh zg hb2 qg z6 qz z0 qo zj hb4 zu;go_wp2_with (first|(at_lookup;refine Fw rfl _ _ 109 true rfl _ _ _ rfl rfl zc.u ?_)|(at_lookup;refine Fw rfl _ _ 109 false rfl _ _ _ rfl rfl (L4.u _ q6.u) ?_));refine qb.u.mono ?_;rintro e zy⟨rfl,rfl⟩;go_wp2_with fail;refine HF.u.mono ?_;rintro e W3⟨rfl,hb3⟩;have q7:OpB W3 q 0 none 0 0 none 0 0 none:=(hb3.block q z9.u.lt).trans z9.u;have qi:=Ab (q6.u.trans (hb3.mono (Ã (Ã qu.u qk.u) q4.u.size)));have q9:=Ab hb3;have g0:=q7.c0;have g1:=q7.c1;have g2:=q7.c2;have g3:=q7.c3;have z:=q7.fz;clear q7 hb3 HF qb;unfold OX;cases hkk:BJ nm bv bf with
  |none=>
   simp only[H2,F5];have qd:=Ab (show Bf d=none by unfold Bf;rw[z8.u];simp only;rw[<-qr.u,<-qt.u,<-z7.u,hkk]);clear hkk;go_wp2_with fail;refine Ì (v:=.tuple #[opV 0 none 0 0 none 0 0 none,.bool false]) (by simp[CH,results115,go_sem,g0,g1,g2,g3]) rfl ?_;refine⟨?_,Hy qi.u (Á _) _ _ _ _⟩;rw[HE.u,Gl,qd.u]
  |some k=>
   simp only[Ģ,G1];have qd:=Ab (show Bf d=some (k,p,(AA (Ao d BS)).getD [],(Ao d AL).getD .nil) by unfold Bf;rw[z8.u];simp only;rw[<-qr.u,<-qt.u,<-z7.u,hkk]);have zm:=Ab hkk;clear hkk;go_wp2_with fail;refine Ì (v:=.tuple #[opV k pa pl pc fa fl fc p3,.bool true]) (by simp[CH,results115,go_sem,g0,g1,g2,g3]) rfl ?_;refine⟨?_,Hy qi.u (Á _) _ _ _ _⟩;rw[HE.u,Gl,qd.u];obtain⟨k1,k2,k3⟩:=GI zm.u;have qq:=qj.u;have y5:=qk.u;have hs2:=q4.u.size;have hQ:=HQ.u;have z1:∀j,j<W3.1.size->j≠q ->∀a b c d',(((((W3.setCell ⟨q,0,none⟩ a).setCell ⟨q,1,none⟩ b).setCell ⟨q,2,none⟩ c).setCell ⟨q,3,none⟩ d').1[j]?=W3.1[j]?):=λj _ hj a b c d'=>QY a b c d' j hj;refine⟨pa,pl,pc,fa,fl,fc,p3,rfl,k1,?_,λh3=>?_,λh3=>?_⟩
   .refine (qe.u.move (w':=W3) (G':=λj=>W0.1.size<=j) λj hj qm=>⟨?_,hj⟩).move ε;exact(q9.u.block j ζ).trans (q4.u.block j qm)
   .have h4:=k3 h3;cases hq:AA (Ao d BS)with
    |none=>have h5:=qr.u;grind
    |some t2=>
     refine((zl.u t2 hq).move (w':=W3) (G':=λj=>W1.1.size<=j) λj hj qm=>⟨q9.u.block j qm,hj⟩).move ε
   .have h4:=k2 h3;cases hq:Ao d AL with
    |none=>have h5:=qt.u;grind
    |some y=>
     have h6:=R3.u;rw[hq]at h6;have h7:Rep top F w (.pointer p3) y:=Rep.up h6 hf;exact h7.move λj hj qm=>⟨(z1 j (by have:=qi.u.size;omega) ζ _ _ _ _).trans (qi.u.block j ζ),Å ⟨hj,ζ⟩⟩
end
theorem MZ{xs:List (Lit×pL)}{k:By}{x:pL}(h:AQ xs)(hg:Aq xs (.string k)=some x):(AS k,x)∈xs:=by
 rcases Gk xs k with⟨c,hc⟩|hno
 .rw[Bi h hc]at hg;grind
 .rw[B9 hno]at hg;cases hg
theorem CO(h:AQ es)(k j:By)(c:pL):Aq (qI (.string k) c es) (.string j)=if j=k then some c else Aq es (.string j):=by
 have hs:=BP (c:=c) (k:=k) h;by_cases e:j=k
 .subst e;rw[if_pos rfl,Bi hs (GF.2 (Å rfl))]
 .rw[if_neg e];rcases Gk es j with⟨c',hc⟩|hn
  .rw[Bi h hc,Bi hs (GF.2 (À ⟨hc,λe'=>e (by injection e')⟩))]
  .rw[B9 hn,B9 λp hp=>?_];rcases GF.1 hp with rfl|⟨hp,_⟩
   .grind
   grind
theorem ET(h:AQ es)(k j:By):Aq (qY (.string k) es) (.string j)=if j=k then none else Aq es (.string j):=by
 by_cases e:j=k
 .subst e;rw[if_pos rfl,B9 λp hp=>(GG.1 hp).2]
 .rw[if_neg e,Z1 h e]
theorem Do:∀{xs ys:List (Lit×pL)},AQ xs->AQ ys->(∀k:By,Aq xs (.string k)=Aq ys (.string k))->xs=ys:=by
 have q0:∀{xs:List (Lit×pL)},AQ xs ->∀(k:By) (c:pL),(AS k,c)∈xs<->Aq xs (.string k)=some c:=λh k c=>⟨Bi h,MZ h⟩
 have q4:∀{xs ys:List (Lit×pL)},AQ xs->AQ ys->(∀p,p∈xs<->p∈ys)->xs=ys:=by
  intro xs;induction xs with
  |nil=>
   intro ys _ _ h;cases ys with
   |nil=>rfl
   |cons b ys=>have:=(h b).2 â;cases this
  |cons a l ih=>
   intro ys hx hy h;cases ys with
   |nil=>have:=(h a).1 â;cases this
   |cons b m=>
    have h1:=ô.1 hx.1;have h2:=ô.1 hy.1;obtain⟨ka,ea⟩:=hx.2 a â;obtain⟨kb,eb⟩:=hy.2 b â;have hab:a=b:=by
     rcases Ë.1 ((h a).1 â)with e|e
     .exact e
     .rcases Ë.1 ((h b).2 â)with e2|e2
      .grind
      .have q1:=h2.1 a e;have q2:=h1.1 b e2;rw[ea,eb]at q1 q2;rw[RF q1]at q2;cases q2
    subst hab;have:l=m:=ih ⟨h1.2,λp hp=>hx.2 p ε⟩ ⟨h2.2,λp hp=>hy.2 p ε⟩ λp=>by
     constructor
     .intro hp;rcases Ë.1 ((h p).1 (Ø _ hp))with e|e
      .subst e;have:=h1.1 p hp;rw[ea,Gb]at this;cases this
      .exact e
     .intro hp;rcases Ë.1 ((h p).2 (Ø _ hp))with e|e
      .subst e;have:=h2.1 p hp;rw[ea,Gb]at this;cases this
      .exact e
    rw[this]
 intro xs ys hx hy h;refine q4 hx hy λp=>?_;constructor
 .intro hp;obtain⟨k,e⟩:=hx.2 p hp;grind
 .intro hp;obtain⟨k,e⟩:=hy.2 p hp;grind
def H8(m:Option pL->List By->pL->pL×List pW)(s:List By)(es l:List (Lit×pL))(k:By):Option pL:=match Aq l (.string k)with
 |none=>Aq es (.string k)
 |some q=>if tJ q=true then none else some (m (Aq es (.string k)) (s++[k]) q).1
theorem Uq{m:Option pL->List By->pL->pL×List pW}{s:List By}{k:By}{q:pL}(h:AQ es):AQ (Cq m s (.string k,q) es).1:=by
 unfold Cq;split
 .simp only;cases Aq es (.string k)with
  |none=>exact h
  |some o=>exact DT h
 .exact BP h
theorem N5{m:Option pL->List By->pL->pL×List pW}{s:List By}{k:By}{q:pL}(h:AQ es)(j:By):
  Aq (Cq m s (.string k,q) es).1 (.string j)=if j=k then(if tJ q=true then none else some (m (Aq es (.string k)) (s++[k]) q).1)else Aq es (.string j):=by
 unfold Cq;simp only;by_cases hn:tJ q=true
 .rw[if_pos hn];simp only[hn,if_true];cases hg:Aq es (.string k)with
  |none=>
   grind
  |some o=>exact ET h k j
 .rw[if_neg hn];simp only[if_neg hn];exact CO h k j _
theorem PR{m:Option pL->List By->pL->pL×List pW}{s:List By}:∀{l es:List (Lit×pL)},AQ l->AQ es->AQ (Dg m s l es).1/\∀j:By,Aq (Dg m s l es).1 (.string j)=H8 m s es l j
 |[],es,_,he=>⟨he,λj=>rfl⟩
 |(kl,q)::r,es,hl,he=>by
  obtain⟨k,ek⟩:=hl.2 _ â;simp only at ek;subst ek;have hp:=ô.1 hl.1;have hr:AQ r:=⟨hp.2,λp hp=>hl.2 p (Ø _ hp)⟩
  have hne:∀p∈r,p.1≠AS k:=λp h e=>by
   grind [Gb,Dg,H8]
  obtain⟨h1,h2⟩:=PR (m:=m) (s:=s) hr (Uq (m:=m) (s:=s) (k:=k) (q:=q) he);refine⟨h1,λj=>?_⟩;unfold Dg;rw[h2 j];unfold H8;by_cases e:j=k
  .subst e;rw[B9 hne,Bi hl â];simp only;rw[N5 he,if_pos rfl]
  .have e2:Aq ((AS k,q)::r) (.string j)=Aq r (.string j):=by
    rcases Gk r j with⟨c,hc⟩|hn
    .rw[Bi hr hc,Bi hl (Ø _ hc)]
    .rw[B9 hn,B9 λp hp=>?_];grind
   rw[e2,N5 he,if_neg e]
theorem V9{f:Nat}{ps:List (Lit×pL)}(h:AQ ps):AQ (uB f ps)/\∀k:By,Aq (uB f ps) (.string k)=match Aq ps (.string k)with
  |none=>none
  |some q=>if tJ q=true then none else some (Ee f q):=by
 have hs:AQ (uB f ps):=by
  unfold uB;refine⟨Ć.2 (h.1.filter _),λp hp=>?_⟩;obtain⟨q,hq,rfl⟩:=Ò.1 hp;exact h.2 q (Đ.1 hq).1
 refine⟨hs,λk=>?_⟩;have hno:∀q,Aq ps (.string k)=some q->tJ q=true->Aq (uB f ps) (.string k)=none:=λq hg hn=>B9 λp hp e=>by
  unfold uB at hp;obtain⟨r,hr,rfl⟩:=Ò.1 hp;obtain⟨h1,h2⟩:=Đ.1 hr;have h3:(AS k,r.2)∈ps:=ε;rw[Bi h h3]at hg;grind
 cases hg:Aq ps (.string k)with
 |none=>
  refine B9 λp hp e=>?_;unfold uB at hp;obtain⟨r,hr,rfl⟩:=Ò.1 hp;have h3:(AS k,r.2)∈ps:=ε;rw[Bi h h3]at hg;cases hg
 |some q=>
  simp only;split
  .grind
  .rename_i hn;refine Bi hs ?_;unfold uB;exact Ò.2 ⟨(.string k,q),Đ.2 ⟨MZ h hg,ε⟩,rfl⟩
theorem Lc{f:Nat}{o:Option pL}{s:List By}{p:pL}(h:(∀v,o=some v->Eh v=false)\/Eh p=false):(qQ (f+1) o s p).1=Ee (f+1) p:=by
 cases o with
 |none=>rfl
 |some v=>
  rcases h with h|h
  .have:=h v rfl;cases v<;>cases p<;>first|rfl|cases this
  .cases v<;>cases p<;>first|rfl|cases h
theorem fV{f:Nat}{ps:List (Lit×pL)}{s:List By}:(qQ (f+1) (some (.map es)) s (.map ps)).1=.map (Dg (qQ f) s ps es).1:=by
 have he:qQ (f+1) (some (.map es)) s (.map ps)=H7 (qQ f) s ps es:=rfl;rw[he,Gi]
def uC(es:Ms)(k:By)(y:O):Ms:=es.map (λp=>if p.1=k then(k,y)else p)++if es.any (λp=>p.1==k)then[]else[(k,y)]
def Gv(es:Ms)(k:By):Ms:=es.filter λp=>!(p.1==k)
theorem KR(k:By)(y:O)(j:By):∀es:Ms,qU j (es.map λp=>if p.1=k then(k,y)else p)=if j=k then(qU j es).map λ_=>y else qU j es
 |[]=>by simp[qU]
 |p::r=>by
  have ih:=KR k y j r;simp only[Ð,qU];grind
theorem SJ(j:By)(b:Ms):∀a:Ms,qU j (a++b)=(qU j a).or (qU j b)
 |[]=>by simp[qU]
 |p::r=>by
  have ih:=SJ j b r;simp only[Ü,qU];grind
theorem SK(k:By):∀es:Ms,(qU k es).isSome=es.any λp=>p.1==k
 |[]=>rfl
 |p::r=>by
  have ih:=SK k r;simp only[qU,ļ];grind
theorem fZ(es:Ms)(k j:By)(y:O):qU j (uC es k y)=if j=k then some y else qU j es:=by
 unfold uC;rw[SJ,KR];have h:=SK k es;by_cases hj:j=k
 .subst hj;cases hm:qU j es<;>rw[hm]at h<;>simp[<-h,qU]
 .rw[if_neg hj,if_neg hj];split<;>simp[qU,ň hj]
theorem PQ(k j:By):∀es:Ms,qU j (Gv es k)=if j=k then none else qU j es
 |[]=>by simp[Gv,qU]
 |p::r=>by
  have ih:=PQ k j r;unfold Gv at ih |-;by_cases hp:p.1=k
  .simp[hp,ih,qU];grind
  .simp[hp,ih,qU];grind
theorem Nk{es:Ms}(k:By)(y:O)(h:(es.map (·.1)).Nodup):((uC es k y).map (·.1)).Nodup:=by
 have e:(es.map (λp=>if p.1=k then(k,y)else p)).map (·.1)=es.map (·.1):=by
  rw[Ý];refine ä λp _=>?_;grind
 unfold uC;grind
theorem LF{es:Ms}(k:By)(h:(es.map (·.1)).Nodup):((Gv es k).map (·.1)).Nodup:=h.sublist (List.Sublist.map _ List.filter_sublist)
theorem dM{es:Ms}{k:By}{y:O}{p:By×O}(h:p∈uC es k y):p∈es\/p=(k,y):=by
 grind [uC]
theorem Gh(f:Nat)(es:Ms)(hnd:(es.map (·.1)).Nodup):∃E,pO (f+1) (qF es)=.map E/\AQ E/\E.length=es.length/\∀k:By,Aq E (.string k)=(qU k es).map (pO f):=by
 obtain⟨E,e1,e2,e3,e4⟩:=CG f es hnd;have hs:AQ E:=by
  obtain⟨E',h1,h2,_⟩:=e4;cases h1;exact⟨h2,ε⟩
 refine⟨E,e1,hs,by grind [e2.length_eq],λk=>?_⟩;cases hm:qU k es with
 |some y=>exact Bi hs (e2.mem_iff.2 (Ò.2 ⟨_,Cf hm,rfl⟩))
 |none=>
  refine B9 λp hp=>?_;obtain⟨q,hq,rfl⟩:=Ò.1 (e2.mem_iff.1 hp);exact λe=>GE hm q hq (D0 e)
theorem fT(f:Nat){es:Ms}(hnd:(es.map (·.1)).Nodup)(h:pO (f+1) (qF es)=.map E)(k:By)(y:O):pO (f+1) (qF (uC es k y))=.map (qI (.string k) (pO f y) E):=by
 obtain⟨E1,e1,s1,_,g1⟩:=Gh f es hnd;obtain⟨E2,e2,s2,_,g2⟩:=Gh f _ (Nk k y hnd);obtain rfl:E1=E:=ε;rw[e2];congr 1;refine Do s2 (BP s1) λj=>?_;rw[g2,CO s1,fZ,g1];grind
theorem Zl(f:Nat){es:Ms}(hnd:(es.map (·.1)).Nodup)(h:pO (f+1) (qF es)=.map E)(k:By):pO (f+1) (qF (Gv es k))=.map (qY (.string k) E):=by
 obtain⟨E1,e1,s1,_,g1⟩:=Gh f es hnd;obtain⟨E2,e2,s2,_,g2⟩:=Gh f _ (LF k hnd);obtain rfl:E1=E:=ε;rw[e2];congr 1;refine Do s2 (DT s1) λj=>?_;rw[g2,ET s1,PQ,g1];grind
def upd(L:Nat->Bool)(i:Nat):Nat->Bool:=λj=>if j=i then true else L j
def Ye(md:Region.Mode)(L:Nat->Bool)(o:Oper):Prop:=∀e∈o.after,I6 md e=true->L e.on=true
theorem jP{l:Array Bool}{i:Nat}(h:i<l.size):(λj=>(l.setIfInBounds i true).getD j false)=upd (λj=>l.getD j false) i:=by
 funext j;unfold upd;by_cases hj:j=i
 .simp_all
 .rw[if_neg hj];exact Ú _ (λe=>hj e.symm)
def QP(b z:Nat)(wb:AI)(R T:Bs->AI->Prop)(L:Nat->Bool)(x y:Bs)(w:AI):Prop:=(L z=false->Bl wb w/\(L b=true->R x w))/\(L z=true->T y w)
structure Vf(ops:Array Oper)(L:Nat->Bool)(i:Nat)(o:Oper):Prop where
 at_:ops[i]?=some o
 no:L i=false
 after:Ye .any L o
 clo:∀j oj,ops[j]?=some oj->L j=true->Ye .any L oj
theorem Vn{P:Program}{ops:Array Oper}{Q:Exit->Act->AI->Prop}(b z n:Nat)(A:(Nat->Bool)->Bs->Bs->Act)(R T:Bs->AI->Prop)(wb:AI)(hn:ops.size=n)(q7:(b==z)=false)(hw:(List.range ops.size).all (λi=>((ops[i]?).map λo=>o.after.all λe=>!I6 .any e || decide (e.on<i)).getD true)=true)(hR:∀x w w',R x w->Bl w w'->R x w')(hp:∀L x y w i o,i<n->i≠b->i≠z->Vf ops L i o->QP b z wb R T L x y w ->∀K:Act->AI->Prop,(∀w',(L z=false->Bl w w')->(L z=true->w'=w)->K (A (upd L i) x y) w')->wpOp P ops Q i K (A L x y) w)(hb:∀L x y w o,Vf ops L b o->QP b z wb R T L x y w ->∀K:Act->AI->Prop,(∀x' w',(L z=false->Bl w w'/\R x' w')->(L z=true->w'=w)->K (A (upd L b) x' y) w')->wpOp P ops Q b K (A L x y) w)(hz:∀L x y w o,Vf ops L z o->QP b z wb R T L x y w ->∀K:Act->AI->Prop,(∀y' w',T y' w'->K (A (upd L z) x y') w')->wpOp P ops Q z K (A L x y) w)(he:∀L x y w,(∀i,i<n->L i=true)->QP b z wb R T L x y w->Q .normal (A L x y) w)(x y:Bs)(w0:AI)(q6:Bl wb w0):
  wpAny P .any ops Q ops.size (Array.replicate ops.size false) (A (λ_=>false) x y) w0:=by
 subst hn;have hne:b≠z:=ε;refine TC (λl a w=>l.size=ops.size/\∃x y,a=A (λj=>l.getD j false) x y/\QP b z wb R T (λj=>l.getD j false) x y w) ?_ ?_ _ _ _ ⟨φ,x,y,?_,?_⟩
 .rintro l a w hcl⟨hsz,x,y,rfl,hI⟩i hi;obtain⟨hno,haft⟩:=DE hi;obtain⟨_,o,ho,_⟩:=mem_ready.1 hi;have hlt:=(È.1 ho).1;have hT:Vf ops (λj=>l.getD j false) i o:=⟨ho,ε,λe h1 h2=>haft o ho e h1 h2,λj oj hj hL e h1 h2=>hcl j oj hj hL e h1 h2⟩
  have hu:=jP (l:=l) (i:=i) ζ;by_cases q4:i=b
  .subst q4;refine hb _ x y w o hT hI _ λx' w' h1 h2=>⟨by simp[hsz],x',y,by rw[hu],?_⟩
   rw[hu];have ez:upd (λj=>l.getD j false) i z=l.getD z false:=by unfold upd;grind
   refine⟨λhz0=>?_,λq0=>?_⟩
   .rw[ez]at hz0;obtain⟨q1,q2⟩:=h1 hz0;exact⟨(hI.1 hz0).1.trans (q1.mono (hI.1 hz0).1.size),λ_=>q2⟩
   .rw[ez]at q0;rw[h2 q0];exact hI.2 q0
  .by_cases q5:i=z
   .subst q5;refine hz _ x y w o hT hI _ λy' w' h1=>⟨by simp[hsz],x,y',by rw[hu],?_⟩
    rw[hu];refine⟨λhz0=>?_,λ_=>h1⟩;unfold upd at hz0;grind
   .refine hp _ x y w i o hlt q4 q5 hT hI _ λw' h1 h2=>⟨by simp[hsz],x,y,by rw[hu],?_⟩
    rw[hu];have ez:upd (λj=>l.getD j false) i z=l.getD z false:=by unfold upd;grind
    have eb:upd (λj=>l.getD j false) i b=l.getD b false:=by unfold upd;grind
    refine⟨λhz0=>?_,λq0=>?_⟩
    .rw[ez]at hz0;have q1:=h1 hz0;refine⟨(hI.1 hz0).1.trans (q1.mono (hI.1 hz0).1.size),λhb1=>?_⟩;rw[eb]at hb1;exact hR _ _ _ ((hI.1 hz0).2 hb1) q1
    .rw[ez]at q0;rw[h2 q0];exact hI.2 q0
 .rintro l a w⟨hsz,x,y,rfl,hI⟩hr;exact he _ x y w (IL hsz hw hr) hI
 .congr 1;funext j;simp[I3]
 .refine⟨λ_=>⟨q6,λh=>?_⟩,λh=>?_⟩
  .simp[I3]at h
  .simp[I3]at h
def ME(w:AI)(G:Nat->Prop)(g:Nat)(ops:List qH):Prop:=∀i (h:i<ops.length),∃pa pl pc fa fl fc y,Jx w G ops[i] pa pl pc fa fl fc y/\w.cell? ⟨g,i*4,none⟩=some (InB ops[i].1)/\w.cell? ⟨g,i*4+1,none⟩=some (.slice pa pl pc)/\w.cell? ⟨g,i*4+2,none⟩=some (.slice fa fl fc)/\w.cell? ⟨g,i*4+3,none⟩=some (.pointer y)
theorem Jx.move{w w':AI}{G':Nat->Prop}{o:qH}{pa fa y:Option Addr}{pl pc fl fc:Nat}(h:Jx w G o pa pl pc fa fl fc y)(hk:∀k,G k->k<w.1.size->w'.1[k]?=w.1[k]?/\G' k):Jx w' G' o pa pl pc fa fl fc y:=
 ⟨h.1,h.2.1.move hk,λh3=>(h.2.2.1 h3).move hk,λh3=>(h.2.2.2 h3).move hk⟩
def Jw(D R:Nat)(iv:Bs)(ch:Bool)(Tb:pN)(Mb:Nat->Prop)(wb:AI)(M:Nat->Prop)(d x:Int)(n:Nat)(w:AI)(r:Except (Nat×Nat) (pL×List pW))(e:F2)(w':AI):Prop:=match r with
 |.ok (v,j)=>e=.returned (.tuple #[InB 0,InB 0])/\∃wp jn T a M' wk q0,JS wk D R wp jn iv ch Tb Mb wb T a v M' j/\JEx M M' w wk/\DB w' D (PtB R) (.slice none 0 0) true q0/\Ly w' (λk=>GA (top+1) Tb wb M' k\/wk.1.size<=k) q0 j.reverse/\Aw (λk=>k=D) wk w'/\pZ d x 200000 v/\(pP top v).length<=80000/\(∀o∈j,D5 d x 200000 o)/\j.length<=2*n
 |.error (c,i)=>e=.returned (.tuple #[InB i,InB c])/\DB w' D (PtB R) (.slice none 0 0) ch iv/\BW (top+1) (PtB R) Tb Mb (λk=>k=D) wb w'/\w'.os=w.os/\w'.tape=w.tape/\w'.output=w.output/\w.1.size<=w'.1.size
structure cN(D R:Nat)(iv:Bs)(ch:Bool)(Tb:pN)(Mb:Nat->Prop)(wb:AI)(M:Nat->Prop)(d x:Int)(w:AI)(v0:pL)(ops:List qH)(k:Nat)(W:AI):Prop where
 ex:∃wp jn T a v M' j,JS W D R wp jn iv ch Tb Mb wb T a v M' j/\JEx M M' w W/\j.length<=2*k/\pZ d x 200000 v/\(pP top v).length<=80000/\(∀o∈j,D5 d x 200000 o)/\Cn d 0 v0 [] ops=Cn d k v j (ops.drop k)
section
variable{w:AI}{D R:Nat}{wp:Option Addr}{jn iv:Bs}{ch:Bool}{Tb T a:pN}{Mb M:Nat->Prop}{wb:AI}{v:pL}{d x:Int}{js:List pW}
theorem JM{i n:Nat}{M':Nat->Prop}(h:JS W D R wp jn iv ch Tb Mb wb T a v M' js)(hX:JEx M M' w W)(q0:∀k,Mb k->k≠D/\k<w.1.size):
  CL AT 118 #[PtB D] W λe w'=>e=.returned (.tuple #[])/\Hid (Jw D R iv ch Tb Mb wb M d x n w (.error (c,i)) (.returned (.tuple #[InB i,InB c])) w'):=by
 refine(Pb h.j (λk hk=>⟨(q0 k hk).1,Õ (q0 k hk).2 hX.size⟩)).mono λe w' ⟨rfl,t1,t2,t3,t4,t5,t6⟩=>?_;exact⟨rfl,rfl,t1,t2,t3.trans hX.os,t4.trans hX.tape,t5.trans hX.output,Ã hX.size t6⟩
theorem U4{ao:Option Addr}{ops:List qH}(h:JS w D R wp jn iv ch Tb Mb wb T a v M [])(hT:Aj w)(qw:∀k,k<NG->M k)(qy:∀k,Mb k->k≠D/\k<w.1.size)(hd:d<=100)(hv:pZ d x 200000 v)(z0:(pP top v).length<=80000)(qz:0<ops.length->ao=some ⟨g,0,none⟩/\M g)(qb:ME w (GA (top+1) Tb wb M) g ops)(hok:∀o∈ops,tY (d+2) x 200000 o)(hn:ops.length<=400000000):
  CL AT 84 #[.pointer (some ⟨D,0,none⟩),.slice ao ops.length cap,.int .i64 d] w (Jw D R iv ch Tb Mb wb M d x ops.length w (Cn d 0 v [] ops)):=by
 have qh:Hid (cN D R iv ch Tb Mb wb M d x w v ops 0 w):=⟨wp,jn,T,a,v,M,[],h,JEx.refl _ _,φ,hv,z0,λo ho=>(by cases ho),rfl⟩
 have z5:=Ab (λk (hk:M k)=>(h.j.low k hk).1);obtain⟨n,hnn⟩:∃n,n=ops.length:=⟨_,rfl⟩
 obtain⟨Q,hQ⟩:∃Q,Q=Jw D R iv ch Tb Mb wb M d x ops.length w (Cn d 0 v [] ops):=⟨_,rfl⟩
 rw[<-hQ,<-hnn];have zh:(n:Int)<=400000000:=ζ;have HT:=Ab hT;have qi:=Ab qw;have qu:=Ab qy;have z4:=Ab qz;have qj:=Ab qb;have z6:=Ab hok;have HN:=Ab hnn;have HQ:=Ab hQ;clear h hT qw qy hv z0 qz qb hok hn hnn hQ;go_enter func84,ntmps84;go_wp2;go_loopw [13] (λi wr=>∃k:Nat,k<=n/\i=.int .i64 k/\cN D R iv ch Tb Mb wb M d x w v ops k wr) (λi _=>n-(Ft i).toNat)
 case atStart=>exact⟨0,ζ,rfl,qh.u⟩
 case round=>
  obtain⟨k,hk,rfl,zg,zf,T1,a1,v1,M1,j1,i1,i2,i3,i4,i5,i6,i7⟩:=hrel;by_cases hlt:k<n
  .have qn:k<ops.length:=by have:=HN.u;omega
   obtain⟨z8,za⟩:=z4.u ζ;obtain⟨pa,pl,pc,fa,fl,fc,y,r0,r1,r2,r3,r4⟩:=qj.u k qn;have q9:∀o:Nat,wr.cell? ⟨g,o,none⟩=w.cell? ⟨g,o,none⟩:=λo=>Ç (w:=w) (i2.kept g za).2;have c0:=(q9 _).trans r1;have c1:=(q9 _).trans r2;have c2:=(q9 _).trans r3;have c3:=(q9 _).trans r4;have HR:=Ab (r0.move (w':=wr) (G':=GA (top+1) Tb wb M1) λq hq _=>⟨(i2.kept q hq.1).2,(i2.kept q hq.1).1,hq.2⟩);have q5:=Ab (z6.u _ (Ó qn));have qg:=Ab (show Cn d 0 v [] ops=(match sP v1 ops[k]with|.error c=>.error (c,k) |.ok (d',j')=>if Fi d d'=0 then Cn d (k+1) d' (j1++j') (ops.drop (k+1))else .error (Fi d d',k)) by
    rw[i7,Û qn];rfl)
   obtain⟨o,ho⟩:∃o,o=ops[k]:=⟨_,rfl⟩
   rw[<-ho]at c0 HR q5 qg;have qo:(k:Int)<(n:Int):=ζ;have HJ:=Ab i1;have HX:=Ab i2;have H3:=Ab i3;have H4:=Ab i4;have H6:=Ab i6;subst z8;clear i1 i2 i3 i4 i5 i6 i7 r0 r1 r2 r3 r4 q9 qh ho;obtain⟨kk,hkk⟩:∃kk:Nat,kk=o.1:=⟨_,rfl⟩
   rw[<-hkk]at c0;have q7:Bl wr (wr.alloc (.cells #[.int .i64 kk,.slice pa pl pc,.slice fa fl fc,.pointer y] 178)):=(Â _ _).alloc (Á _) _;have z7:=Ab (HT.u.jex qi.u HX.u);have qq:=Ab q7;have qe:=Ab (mA (d:=d+2) (B:=200000) (HJ.u.bel q7) (z7.u.bel q7) (λq hq=>(HX.u.kept q (qi.u q hq)).1) (H4.u.mono ζ ζ (Á _)) ζ (by have:=H3.u;omega) (HR.u.move λq hq zc=>⟨q7.block q zc,hq⟩) q5.u);rw[<-hkk]at qe;clear q7 hkk;go_wp2_with fail;refine qe.u.mono ?_;rintro e w2 he;cases hdo:sP v1 o with
   |error c=>
    rw[hdo]at he;obtain⟨rfl,z2,z1,T2,a2,v2,M2,j2,s1,s2⟩:=he;have z9:=mB hdo;have q6:=HX.u.trans (JEx.below qq.u (λq hq=>(HJ.u.j.low q hq).1) s2);have qk:=Ab (JM (d:=d) (x:=x) (n:=ops.length) (c:=c) (i:=k) s1 q6 qu.u);have e1:((c:Int)==0)=false:=by rw[beq_eq_false_iff_ne];omega
    have e2:((c:Int)!=0)=true:=by rw[bne_iff_ne];omega
    have q0:=Ab (show Cn d 0 v [] ops=.error (c,k) by have:=qg.u;rw[hdo]at this;exact this);clear s1 s2 q6 hdo z9 qe;go_wp2_with fail;refine qk.u.mono ?_;rintro e w3⟨rfl,hp⟩;go_wp2_with fail;show Q (.returned (.tuple #[.int .i64 k,.int .i64 c])) _;rw[HQ.u,q0.u];exact hp.u
   |ok vj=>
    obtain⟨v2,j2⟩:=vj;rw[hdo]at he;obtain⟨rfl,z2,z1,T2,a2,M2,s1,s2⟩:=he;obtain⟨f1,f2,f3⟩:=Gq H4.u q5.u hd hdo;have q6:=HX.u.trans (JEx.below qq.u (λq hq=>(HJ.u.j.low q hq).1) s2);have qf:=Ab s1;have qv:=Ab q6;have q4:=Ab (Rl (dp:=d) s1 (HT.u.jex qi.u q6) f1 ζ);have qt:=Ab (λq (hq:M2 q)=>(s1.j.low q hq).1);have qm:=qg.u;rw[hdo]at qm;have qr:=Ab qm;have HF:=Ab (show(∀o∈j1++j2,D5 d x 200000 o)/\(j1++j2).length<=2*(k+1)from⟨λo ho=>(ó.1 ho).elim (H6.u o) (f2 o),by have:=H3.u;simp;omega⟩);have z3:=Ab f1;clear s1 s2 q6 hdo qe f1 f2 f3 qm;go_wp2_with fail;refine q4.u.mono ?_;rintro e w3⟨rfl,hb3⟩;have qd:=Ab hb3;clear hb3 q4;obtain⟨m,hm⟩:∃m,m=Fi d v2:=⟨_,rfl⟩
    rw[<-hm];by_cases q8:m=0
    .have HG:=Ab (show cN D R iv ch Tb Mb wb M d x w v ops (k+1) w3 from by
      obtain⟨g1,g2⟩:=Ja z3.u hd (hm▸q8);refine⟨z2,z1,T2,a2,v2,M2,j1++j2,qf.u.bel qd.u,qv.u.trans (qf.u.j.bel qd.u).2,HF.u.2,g1.mono (Ā _) ζ ζ,ζ,HF.u.1,?_⟩;have:=qr.u;rw[this]
      try simp only[]
      rw[if_pos (hm▸q8)])
     clear hm;subst q8;go_wp2;exact⟨⟨k+1,ζ,ψ,HG.u⟩,by simp[Ft];omega⟩
    .have qk:=Ab (JM (d:=d) (x:=x) (n:=ops.length) (c:=m) (i:=k) (qf.u.bel qd.u) (qv.u.trans (qf.u.j.bel qd.u).2) qu.u);have e1:((m:Int)==0)=false:=by rw[beq_eq_false_iff_ne];omega
     have e2:((m:Int)!=0)=true:=by rw[bne_iff_ne];omega
     have q0:=Ab (show Cn d 0 v [] ops=.error (m,k) by
      have:=qr.u;rw[this]
      try simp only[]
      rw[if_neg (hm▸q8),hm])
     clear hm q8;go_wp2_with fail;refine qk.u.mono ?_;rintro e w4⟨rfl,hp⟩;go_wp2_with fail;show Q (.returned (.tuple #[.int .i64 k,.int .i64 m])) _;rw[HQ.u,q0.u];exact hp.u
  .have zb:k=ops.length:=by have:=HN.u;omega
   have HK:=Ab (ZL i1.j ζ);have q0:=Ab (show Cn d 0 v [] ops=.ok (v1,j1) by rw[i7,í ζ];rfl);have HJ:=Ab i1;have HX:=Ab i2;have H4:=Ab i4;have H5:=Ab i5;have H6:=Ab i6;have H3:=Ab i3;have qo:¬(k:Int)<(n:Int):=ζ;clear i1 i2 i3 i4 i5 i6 i7 zb qh;go_wp2_with fail;refine HK.u.mono ?_;rintro e w2⟨rfl,ze,k1,k2,k3⟩;have HP:=Ab (show Jw D R iv ch Tb Mb wb M d x ops.length w (.ok (v1,j1)) (.returned (.tuple #[.int .i64 0,.int .i64 0])) w2 from⟨rfl,zg,zf,T1,a1,M1,wr,ze,HJ.u,HX.u,k1,k2,k3,H4.u,H5.u,H6.u,by have:=H3.u;have:=HN.u;omega⟩);clear k1 k2 k3;go_wp2_with fail;show Q (.returned (.tuple #[.int .i64 0,.int .i64 0])) _;rw[HQ.u,q0.u];exact HP.u
end
abbrev FN(F:Nat->Prop)(B:Nat):Nat->Prop:=λk=>(F k/\k<B)\/B<=k
section
variable{w w2:AI}{D R:Nat}{wp:Bs}{iv:Bs}{ch:Bool}{T a:pN}{v:pL}
theorem Rg(h:D8 w D R wp (.slice none 0 0) iv ch T a v)(hb:Bl w w2):
  ∃q0,wp=.pointer q0/\JS w2 D R q0 (.slice none 0 0) iv ch T (λk=>k<w.1.size/\k∉pM (top+1) T/\k≠D) w T a v (λk=>k<w2.1.size/\k∉pM (top+1) T/\k≠D) []:=by
 obtain⟨b,rfl,_⟩:=h.sub.ptr;have hs:=hb.size;refine⟨_,rfl,⟨⟨[],[],h.db.kept (hb.block D h.db.lt),⟨rfl,Å ⟨rfl,rfl⟩⟩,trivial,λN w' hA=>?_⟩,by simp[B4],λg hg=>by simp[B4]at hg,h.tr.bel hb,h.nd,⟨h.nD,λhm=>hm.2.2 rfl⟩,ε,ε⟩,h.move (hb.block D h.db.lt) λk hk=>hb.block k (h.tr.lt k hk)⟩;obtain⟨T',e,t1,t2,t3⟩:=hA.tree;exact⟨ε,λk hm=>(hA.held k ⟨ζ,hm.2⟩).trans (hb.block k hm.1),λk hm=>hA.low k ⟨ζ,hm.2⟩⟩
theorem D8.of{w':AI}{T1:pN}{a1:pN}(hd:DB w' D (PtB R) (.slice none 0 0) ch iv)(ht:Ad (top+1) w' (PtB R) T1)(hn:(pM (top+1) T1).Nodup)(hD:D∉pM (top+1) T1)(e:er (top+1) T1=er (top+1) (pS R g (.slice [a1] []))):
  ∃wp a,D8 w' D R wp (.slice none 0 0) iv ch T1 a (pT top a1):=by
 obtain⟨g',q0,rfl,e2⟩:=ht.er_arr e;obtain⟨a,rfl⟩:∃a,q0=[a]:=List.length_eq_one_iff.1 (by have:=congrArg If e2;simpa using this);have e3:er top a=er top a1:=by
  have:=congrArg (λl:List pN=>l[0]?) e2;simpa using this
 obtain⟨u,hu⟩:∃u,Ad top w' u a:=Ad.at (f:=top) (p:=[0]) ht rfl;exact⟨u,a,hd,ht,⟨g',rfl⟩,hu,by rw[<-Ii,e3,Ii],hn,hD⟩
variable{F:Nat->Prop}{B:Nat}{d e:Int}{x:pL×rA}{w':AI}
theorem Ui(h:D8 w D R wp (.slice none 0 0) iv ch T a x.1)(hch:ch=x.2.isSome)(hF:∀k∈pM (top+1) T,F k)(hi:LB w (λk=>F k/\k≠D/\k∉pM (top+1) T) iv x.2)(fD:F D)(hl:(pP top x.1).length<=80000)(hg:pU d e top 1 x.1)(q0:∀k,F k->k<w.1.size->k<B)(hB:B<=w.1.size)(hA:BW (top+1) (PtB R) T (λk=>k<w.1.size/\k∉pM (top+1) T/\k≠D) (λk=>k=D) w w')(hd:DB w' D (PtB R) (.slice none 0 0) ch iv):
  BN w' (FN F B) (PtB D) d e (some x):=by
 obtain⟨T',q6,t1,t2,t3⟩:=hA.tree;obtain⟨g,eT⟩:=h.one;have q7:=h.db.lt;have q8:=h.tr.lt;obtain⟨q9,a',q4⟩:=D8.of hd t1 t2 (λhm=>(t3 D hm).2 rfl) (by rw[q6,eT]);rw[h.str]at q4;have hin:∀k∈pM (top+1) T',w.1.size<=k\/k∈pM (top+1) T:=λk hk=>by
  by_cases h1:w.1.size<=k
  .exact Å h1
  .refine À (Classical.byContradiction λh2=>(t3 k hk).1 ⟨ζ,h2,λh3=>(t3 k hk).2 h3⟩)
 refine⟨D,R,q9,rfl,⟨T',a',iv,by rw[<-hch];exact q4,λk hk=>?_,hi.move λk hk q5=>?_⟩,Å ⟨fD,q0 D fD q7⟩,hl,hg⟩
 .rcases hin k hk with h1|h1
  .exact À ζ
  .exact Å ⟨hF k h1,q0 k (hF k h1) (q8 k h1)⟩
 .refine⟨hA.held k ⟨q5,hk.2.2,hk.2.1⟩,Å ⟨hk.1,q0 k hk.1 q5⟩,hk.2.1,λhm=>?_⟩;rcases hin k hm with h1|h1
  .omega
  .exact hk.2.2 h1
theorem Ug{wk:AI}{q7:Option Addr}{jn q4:Bs}{T2 a2:pN}{Mb M':Nat->Prop}(hF:∀k∈pM (top+1) T,F k/\k<B)(fD:F D/\D<B)(hB:B<=w.1.size)(hJ:JS wk D R q7 jn iv ch T Mb w T2 a2 v' M' j)(hd:DB w' D (PtB R) (.slice none 0 0) true q4)(ho:Ly w' (λk=>GA (top+1) T w M' k\/wk.1.size<=k) q4 j.reverse)(hk:Aw (λk=>k=D) wk w')(hl:(pP top v').length<=80000)(hg:pU d e top 1 v')(hp:(Dq j.reverse).length<=8796093022208)(hok:∀o∈j.reverse,vS o):
  BN w' (FN F B) (PtB D) d e (some (v',some j.reverse)):=by
 have h:=hJ.t;have q5:=h.tr.lt;have q6:=hJ.j.up;have q8:=h.nD;have ht:∀k∈pM (top+1) T2,w'.1[k]?=wk.1[k]?:=λk hkk=>hk.block k (q5 k hkk) λe=>q8 (e▸hkk);have q0:∀k,k∈pM top a2->k∈pM (top+1) T2:=λk hkk=>by
  obtain⟨g,e⟩:=h.one;rw[e,AU];exact Ø _ (ý _ (by simpa using hkk))
 have hin:∀k,(w.1.size<=k\/k∈pM (top+1) T)->FN F B k:=λk hh=>hh.elim (λh1=>À ζ) λh1=>Å (hF k h1);refine⟨D,R,.pointer q7,rfl,⟨T2,a2,q4,⟨hd,h.tr.move ht,h.one,h.sub.move λk hkk=>ht k (q0 k hkk),h.str,h.nd,h.nD⟩,λk hkk=>hin k (q6.2 k hkk),ho.move λk hkk q9=>⟨rfl,?_⟩,hp,hok⟩,Å fD,hl,hg⟩;rcases hkk with⟨h1,h2⟩|h1
 .exact⟨hin k h2,λe=>hJ.j.dD.2 (e▸h1),(hJ.j.low k h1).2⟩
 .have h3:=hJ.j.dlt;exact⟨À (by have:=q6.1;omega),ζ,λhm=>by have:=q5 k hm;omega⟩
end
theorem K6:∀t:By,(Bw t).length<=2*t.length
 |[]=>Á _
 |c::r=>by
  have h1:=K6 r;have h2:(DJ c).length<=2:=by
   unfold DJ
   repeat' split
   all_goals simp
  simp only[Bw,ã,Ñ,É]at h1 |-;omega
theorem IU:∀p:List By,(AO p).length<=2*(p.map λt=>t.length+1).sum
 |[]=>Á _
 |t::r=>by
  have h1:=IU r;have h2:=K6 t;simp only[AO,ã,Ñ,É,Ð,Ĉ]at h1 |-;omega
theorem LN{α:Type}{q:α->Nat}{m:Nat}:∀{l:List α},(∀a∈l,q a<=m)->(l.map q).sum<=l.length*m
 |[],_=>φ
 |a::l,h=>by
  have h1:=h a φ;have h2:=LN (q:=q) (l:=l) λb hb=>h b (by simp[hb]);simp only[Ð,Ĉ,É,Nat.add_mul];omega
theorem cB{f m:Nat}{es:List pL}(h:∀e∈es,(pP f e).length<=m):(pP (f+1) (Ak es)).length<=2+es.length*(m+1):=by
 rw[BH];have h1:=FO (es.map (pP f));rw[Ý]at h1;have h2:(es.map ((λx=>x.length+1) ∘ pP f)).sum<=es.length*(m+1):=LN ε;grind
theorem PI{f m:Nat}(h:∀k∈rV es,(qN f es k).length<=m):(pP (f+1) (Ap es)).length<=2+(rV es).length*(m+1):=by
 rw[EW];have h1:=FO ((rB es).map (qN f es));have hp:(rB es).Perm (rV es):=ĕ _ _;rw[Ý]at h1;have h2:((rB es).map ((λx=>x.length+1) ∘ qN f es)).sum<=(rB es).length*(m+1):=LN ε;rw[hp.length_eq]at h2;simp only[É,Ñ,á];have h3:(Ah ((rB es).map (qN f es))).length<=(rV es).length*(m+1):=ζ;exact Ã (C5 (C5 h3 _) _) ζ
theorem gY{d x:Int}{B:Nat}{v:pL}(h:pZ d x B v):(pP (top-2) v).length<=B:=by
 have hd:=h.dd;have g1:=CT (f:=1000) h.gd ζ;have e1:=Ew 1000 (top-2) 1 v g1 (by grind [top]);have e2:=Ew 1000 top 1 v g1 (by grind [top]);have h1:=(Dz h.gd).1;have h2:=h.sz;grind
theorem wP{d x:Int}{o:pW}(h:D5 d x 200000 o):(pP (top-1) (AH o)).length<=7300000:=by
 obtain⟨h1,h2⟩:=h;have h3:=IU o.2.1;have hq:=Fm (AO o.2.1);have e1:(pP (top-2) (Av (AO o.2.1))).length=(Ai (AO o.2.1)).length:=rfl;have hn:(Bb o.1).length<=7:=by
  unfold Bb
  repeat' split
  all_goals decide
 have q0:=Fm (Bb o.1);have e2:(pP (top-2) (Av (Bb o.1))).length=(Ai (Bb o.1)).length:=rfl;have q1:(Ai rS).length=4:=rfl;have q2:(Ai A8).length=6:=rfl;have q3:(Ai AL).length=7:=rfl;unfold AH;split
 .refine Ã (PI (f:=top-2) (m:=2400100) λk hk=>?_) (by simp[rV]);have hk2:k=rS\/k=A8:=by simpa[rV]using hk
  rw[uY];rcases hk2 with rfl|rfl
  .have e3:rW [(.string rS,Av (Bb o.1)),(.string A8,Av (AO o.2.1))] rS=Av (Bb o.1):=rfl;grind
  .have e3:rW [(.string rS,Av (Bb o.1)),(.string A8,Av (AO o.2.1))] A8=Av (AO o.2.1):=rfl;grind
 .rename_i hne;have h4:=gY (h2 hne);refine Ã (PI (f:=top-2) (m:=2400100) λk hk=>?_) (by simp[rV]);have hk2:k=rS\/k=A8\/k=AL:=by simpa[rV]using hk
  rw[uY];rcases hk2 with rfl|rfl|rfl
  .have e3:rW [(.string rS,Av (Bb o.1)),(.string A8,Av (AO o.2.1)),(.string AL,o.2.2)] rS=Av (Bb o.1):=rfl;grind
  .have e3:rW [(.string rS,Av (Bb o.1)),(.string A8,Av (AO o.2.1)),(.string AL,o.2.2)] A8=Av (AO o.2.1):=rfl;grind
  .have e3:rW [(.string rS,Av (Bb o.1)),(.string A8,Av (AO o.2.1)),(.string AL,o.2.2)] AL=o.2.2:=rfl;grind
theorem NP{d x:Int}(h:∀o∈j,D5 d x 200000 o)(hn:j.length<=1000000):(Dq j).length<=8796093022208:=by
 have h1:=cB (f:=top-1) (m:=7300000) (es:=j.map AH) λe he=>by
  obtain⟨o,ho,rfl⟩:=Ò.1 he;exact wP (h o ho)
 have h2:(Dq j).length<=2+(j.map AH).length*(7300000+1):=h1;grind
