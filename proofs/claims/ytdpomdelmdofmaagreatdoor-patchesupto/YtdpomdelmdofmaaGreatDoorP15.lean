import Derived.Test.YtdpomdelmdofmaaGreatDoorP14
import Derived.Test.YtdpomdelmdofmaaGreatDoorP13
open Go.Proofs.Tryz renaming prog->AI
open Go renaming World->AS,Value->AT,Calls->A1,results->A4,maxLen->Bs,DataW->CR,Ending->C1
open Go.Value renaming pointer->A2,ownBlock->BY
open Go.Lit renaming string->A3
open Go.RowKit renaming Below->A5
open Go.Maps renaming has->B1
open List renaming getElem_append_left->B2,length->CH
open Prod renaming snd->B3
open Go.Lib renaming itoa->B4
open Go.ByteArray renaming toList_mk->CD
open Go.WideAt renaming IsKeyLit->CL
open Go.World renaming frozen?->C0
open Go.DataW renaming map->C2
set_option maxRecDepth 100000
set_option maxHeartbeats 4000000
namespace Go.Proofs.YtdpomdelmdofmaaGreatDoor
open Go.Proofs.Tryz Go.RowKit Go.Maps
variable{α β:Type}{al:List pN}{Z N M':Nat->Prop}{e:C1}{wk w1 w2:AS}{T1 a1:pN}{pv:AT}{l s:List By}
section
attribute [local go_sem ↓] Go.wp_at_zero Go.wp_at_succ
section
variable{w:AS}{b:Nat}{pth:AT}{key:By}{i:Nat}
theorem UF{sl:AT}{l:List (Option Addr)}{x:Option Addr}(h:VB w b 5 n0 [] sl (.map none))(ho:w.ownsRow 0 80 1 sl l.length (l.map A2))(hi:i<=l.length)(hb:l.length<=1000000000000)(qf:sl.ownBlock≠some b):
  A1 AI 249 #[plV pth b key i,.pointer x] w (Fb b sl (rN i x l) w):=by
 have q9:=h.lt;have q0:∀o,(w.alloc o).cell? ⟨b,0,none⟩=some (InB 5):=λo=>(Ç (w:=w) (Ä w o b q9)).trans h.c0;have q5:∀o,(w.alloc o).cell? ⟨b,5,none⟩=some sl:=λo=>(Ç (w:=w) (Ä w o b q9)).trans h.c5;have HO:=Ab ho;have HV:=Ab h;have HI:=Ab hi;have q7:=Ab qf;have q6:l.length+1=(rN i x l).length:=(Je x hi).symm;clear h ho hi qf;go_enter func249,ntmps249;go_wp2_with fail;have qd:=Ê w (.cells #[pth,PtB b,.string ⟨key.toArray⟩,InB i] 185);have q8:=(Â w.1.size w).alloc (Á _) (.cells #[pth,PtB b,.string ⟨key.toArray⟩,InB i] 185);generalize w.alloc (.cells #[pth,PtB b,.string ⟨key.toArray⟩,InB i] 185)=wa at*;clear q0 q5;have hva:VB wa b 5 n0 [] sl (.map none):=HV.u.kept (q8.block b q9);have b1:wa.cell? ⟨w.1.size,1,none⟩=some (PtB b):=ck qd;have b3:wa.cell? ⟨w.1.size,3,none⟩=some (InB i):=ck qd;have b5:=hva.c5;have qb:=Am HO.u λg hg=>q8.block g (Af HO.u g hg).1;have q4:w.1.size<wa.1.size:=ε;have HC:=Ab (show∀W:AS,W.1=(wa.alloc (.cells #[.pointer x] 80)).1->W.os=wa.os->W.tape=wa.tape->W.output=wa.output->A1 AI 291 #[sl,InB i,.slice (some ⟨wa.1.size,0,none⟩) 1 1] W λe w2=>∃g cap,e=.returned (SlB g (l.length+1) cap)/\w2.cell? ⟨w.1.size,1,none⟩=some (PtB b)/\w2.cell? ⟨w.1.size,3,none⟩=some (InB i)/\CeB w2 b 5=some sl/\w2.frozen? ⟨b,5,none⟩=false/\Hid (Fb b sl (rN i x l) w (.returned (.tuple #[])) (w2.setCell ⟨b,5,none⟩ (SlB g (l.length+1) cap)))from λW hW e1 e2 e3=>by
  have hold:∀k,k<wa.1.size->W.1[k]?=wa.1[k]?:=λk hk=>by rw[hW];exact Ä wa _ k hk
  have qe:W.1[wa.1.size]?=some (.cells #[.pointer x] 80 (0,0)):=by rw[hW];exact Ê wa _
  have qn:wa.1.size<W.1.size:=ε;have qk:=Am (w':=W) qb λg hg=>hold g (Af qb g hg).1;refine(nF qk qe (λe=>by have:=(Af qb _ e).1;omega) HI.u hb).mono ?_;rintro e w2⟨g,cap,rfl,ho2,hk2,qm⟩;have hne:∀k,k<wa.1.size->sl.ownBlock≠some k->w2.1[k]?=wa.1[k]?:=λk hk hn=>(hk2.block k ζ (λe=>hn e.symm)).trans (hold k hk);have qj:=hne b hva.lt q7.u;have qg:=hne w.1.size q4 (λe=>by have:=(Af HO.u _ e).1;omega);have qh:VB w2 b 5 n0 [] sl (.map none):=hva.kept qj;refine⟨g,cap,rfl,(Ç (a:=⟨w.1.size,1,none⟩) qg).trans b1,(Ç (a:=⟨w.1.size,3,none⟩) qg).trans b3,qh.c5,qh.z 5,?_⟩;have qi:b≠g:=λe=>by
   rcases qm with h|h
   .exact q7.u (by rw[h,e])
   omega
  refine Fb.of q6 qi hva q8 ho2 ⟨hk2.os.trans e1,hk2.tape.trans e2,hk2.output.trans e3,by have:=hk2.size;omega,ε⟩ q7.u ε)
 have d1:∀o,(wa.alloc o).cell? ⟨w.1.size,1,none⟩=some (PtB b):=λo=>(Ç (a:=⟨w.1.size,1,none⟩) (Ä wa o _ q4)).trans b1;have d3:∀o,(wa.alloc o).cell? ⟨w.1.size,3,none⟩=some (InB i):=λo=>(Ç (a:=⟨w.1.size,3,none⟩) (Ä wa o _ q4)).trans b3;have d5:∀o,(wa.alloc o).cell? ⟨b,5,none⟩=some sl:=λo=>(Ç (a:=⟨b,5,none⟩) (Ä wa o _ hva.lt)).trans b5;clear qb qd q8 hva HV HO HI q7 q6;have qo:¬w.1.size=b:=ζ;have qq:¬b=w.1.size:=ζ;clear q9;go_region_with (go_at_call 291;refine(HC.u _ θ θ θ θ).mono ?_;rintro e w2⟨g,cap,rfl,k1,k3,k5,kz,KEND⟩);all_goals exact Ĝ (þ rfl _ _ _) rfl KEND.u
end
end
def sQ(n:pN):List Nat:=match n with
 |.agg [.lit (.int _ b),.lit (.int _ g),x]=>(match x with
  |.slice _ _=>b.toNat::(if g=0 then[]else[g.toNat])
  |.map _=>[b.toNat,g.toNat]
  |_=>[b.toNat])
 |_=>[]
theorem Gg(b g:Nat)(al:List pN):sQ (pS b g (.slice al []))=b::(if g=0 then[]else[g]):=by
 show(b:Int).toNat::(if(g:Int)=0 then[]else[(g:Int).toNat])=_;grind
theorem Gf(b g:Nat)(es:List (Lit×pN)):sQ (pS b g (.map es))=[b,g]:=rfl
theorem Kw{f:Nat}{w:AS}:∀{ps:List AT}{al:List pN},Al (Ad f w) ps al ->∃l:List (Option Addr),ps=l.map A2/\l.length=al.length
 |[],[],_=>⟨[],rfl,rfl⟩
 |_::_,_::_,⟨h,t⟩=>by
  obtain⟨b,rfl,_⟩:=h.ptr;obtain⟨l,rfl,e⟩:=Kw t;exact⟨some ⟨b,0,none⟩::l,rfl,by simp[e]⟩
theorem Al.take{α β:Type}{P:α->β->Prop}:∀{l:List α}{m:List β},Al P l m ->∀i,Al P (l.take i) (m.take i)
 |[],[],_,_=>ε
 |_::_,_::_,_,0=>trivial
 |_::_,_::_,⟨a,b⟩,i+1=>⟨a,Al.take b i⟩
theorem Al.drop{α β:Type}{P:α->β->Prop}:∀{l:List α}{m:List β},Al P l m ->∀i,Al P (l.drop i) (m.drop i)
 |[],[],_,_=>ε
 |_::_,_::_,h,0=>h
 |_::_,_::_,⟨_,b⟩,i+1=>Al.drop b i
theorem Al.lins{P:α->β->Prop}{l:List α}{m:List β}(h:Al P l m)(i:Nat){a:α}{b:β}(hab:P a b):Al P (rN i a l) (rN i b m):=Al.append (h.take i) ⟨hab,h.drop i⟩
theorem Al.ldel{P:α->β->Prop}{l:List α}{m:List β}(h:Al P l m)(i:Nat):Al P (rH i l) (rH i m):=Al.append (h.take i) (h.drop (i+1))
theorem Al.set{α β:Type}{P:α->β->Prop}:∀{l:List α}{m:List β},Al P l m ->∀(i:Nat){a:α}{b:β},P a b->Al P (l.set i a) (m.set i b)
 |[],[],_,_,_,_,_=>trivial
 |_::_,_::_,⟨_,t⟩,0,_,_,h=>⟨h,t⟩
 |_::_,_::_,⟨h0,t⟩,i+1,_,_,h=>⟨h0,Al.set t i h⟩
theorem Zv{w:AS}{m n:Nat}{D:List (Lit×CR AT)}(h:w.ownsMap AI 9 RV m n (.map D)):w.ownsMap AI 9 RV m D.length (.map D):=by
 obtain⟨es,q0,hb,F,hs,e⟩:=h;refine⟨es,q0,hb,F,?_,e⟩;grind [length_read]
structure El(f:Nat)(w w':AS)(u:AT)(n n':pN)(Z:Nat->Prop):Prop where
 tr:Ad (f+1) w' u n'
 nd:(pM (f+1) n').Nodup
 sub:∀k∈pM (f+1) n',k∈pM (f+1) n\/Z k\/w.1.size<=k
 kept:Aw (λk=>k∈sQ n) w w'
theorem JZ{f:Nat}{w:AS}{u:AT}{n:pN}(h:Ad (f+1) w u n):∀k∈sQ n,k∈pM (f+1) n:=by
 obtain⟨b,g,x,rfl,hv,h⟩:=h;rcases h with⟨j,_,_,rfl,h⟩|⟨n,_,rfl,h,q0⟩|⟨s,_,rfl,h⟩|⟨al,sl,ps,rfl,_⟩|⟨es,n,D,rfl,_⟩
 .intro k hk;exact hk
 .intro k hk;exact hk
 .intro k hk;exact hk
 .grind [Gg,AU,Gf]
 .intro k hk;rw[Gf]at hk;rw[BC];grind
theorem MT{f:Nat}{n c:pN}{w:AS}{u:AT}(h:Ad (f+1) w u n)(hn:(pM (f+1) n).Nodup)(hc:c∈AM n):∀k∈sQ n,k∉pM f c:=by
 obtain⟨b,g,x,rfl,hv,h⟩:=h;rcases h with⟨j,_,_,rfl,h⟩|⟨n,_,rfl,h,q0⟩|⟨s,_,rfl,h⟩|⟨al,sl,ps,rfl,_⟩|⟨es,n,D,rfl,_⟩
 .rw[FM]at hc;cases hc
 .rw[GK]at hc;cases hc
 .rw[GJ]at hc;cases hc
 .grind [pM,FM,GK,GJ,Cs,AU,Gg,Cg]
 .rw[Cg]at hc;obtain⟨p,hp,rfl⟩:=Ò.1 hc;rw[BC]at hn;obtain⟨n1,n2⟩:=ā.1 hn;obtain⟨n3,_⟩:=ā.1 n2;intro k hk q4;have hm:k∈es.flatMap (λp=>pM f p.2):=ε;rw[Gf]at hk;grind
theorem X1{f b g g':Nat}{w w':AS}{u:AT}{q0:List pN}{l':List (Option Addr)}{sl':AT}(h:Ad (f+1) w u (pS b g (.slice al [])))(hvb:VB w' b 5 n0 [] sl' (.map none))(ho:w'.ownsRow 0 80 1 sl' l'.length (l'.map A2))(hs:sl'.ownBlock=if g'=0 then none else some g')(hal:Al (Ad f w') (l'.map A2) q0)(hg:g'=g\/w.1.size<=g')(hnd:(b::((if g'=0 then[]else[g'])++q0.flatMap (pM f))).Nodup)(hZ:∀k∈q0.flatMap (pM f),k∈al.flatMap (pM f)\/Z k)(hk:Aw (λk=>k∈sQ (pS b g (.slice al []))) w w'):
  El f w w' u (pS b g (.slice al [])) (pS b g' (.slice q0 [])) Z:=by
 obtain⟨b2,g2,x2,e,rfl,_⟩:=h;unfold pS at e;injection e with e;injection e with e _;injection e with e;injection e with _ e;obtain rfl:b=b2:=ζ;refine⟨⟨b,g',_,rfl,rfl,ε⟩,by rw[AU];exact hnd,?_,hk⟩;intro k q4;rw[AU]at q4 |-;grind
theorem FP(q:α->List β){l m:List α}(h:l.Perm m):(l.flatMap q).Perm (m.flatMap q):=h.flatMap_right q
theorem L9{b:Nat}{G Y:List Nat}(h1:Y.Nodup)(h2:b∉Y)(h3:b∉G)(h4:G.Nodup)(h5:∀k∈G,k∉Y):(b::(G++Y)).Nodup:=
 ε
theorem NW(g:Nat):(if g=0 then([]:List Nat)else[g]).Nodup:=ε
theorem FU{f b g:Nat}(hn:(pM (f+1) (pS b g (.slice al []))).Nodup):(al.flatMap (pM f)).Nodup/\b∉al.flatMap (pM f)/\b≠(if g=0 then b+1 else g)/\∀k∈(if g=0 then([]:List Nat)else[g]),k∉al.flatMap (pM f):=by
 rw[AU]at hn;grind
theorem Al.bel{f:Nat}{w w':AS}{ps:List AT}(h:Al (Ad f w) ps al)(hk:∀k∈al.flatMap (pM f),w'.1[k]?=w.1[k]?):Al (Ad f w') ps al:=
 Al.mem (λ_ c hc hu=>hu.move ε) h
section
variable{f:Nat}{w:AS}{u:AT}{n c:pN}{pth:AT}{b i:Nat}{key:By}{x:Option Addr}
theorem oY{g:Nat}(h:Ad (f+1) w u (pS b g (.slice al [])))(hn:(pM (f+1) (pS b g (.slice al []))).Nodup)(hi:i<al.length)(hc:Ad f w (.pointer x) c)(qh:(pM f c).Nodup)(qd:∀k∈pM f c,k∉pM (f+1) (pS b g (.slice al []))):
  A1 AI 250 #[plV pth b key i,.pointer x] w λe w'=>e=.returned (.tuple #[])/\El f w w' u (pS b g (.slice al [])) (pS b g (.slice (al.set i c) [])) (λk=>k∈pM f c):=by
 have h0:=h;obtain⟨p1,p2,p3,p4⟩:=FU hn;obtain⟨b2,g2,x2,e,hu,h⟩:=h;unfold pS at e;injection e with e;injection e with e1 e;injection e with e2 e;injection e with e3 _;injection e1 with e1;injection e1 with _ e1;injection e2 with e2;injection e2 with _ e2;obtain rfl:b=b2:=ζ;obtain rfl:g=g2:=ζ;rcases h with⟨j,_,_,rfl,_⟩|⟨n,_,rfl,_⟩|⟨s,_,rfl,_⟩|⟨qg,sl,ps,rfl,hvb,ho,hs,ha⟩|⟨es,n,D,rfl,_⟩
 .cases e3
 .cases e3
 .cases e3
 .injection e3 with e3 _;subst e3;have hl:=ha.length;refine(eU (pth:=pth) (key:=key) (pu:=x) hvb ho ζ).mono λe w' ⟨rfl,g3,hg3,ho',hk⟩=>?_;obtain⟨rfl,q7⟩:=Im hs hg3;have qb:b≠g3:=ε;have hold:∀k,k<w.1.size->k≠g3->w'.1[k]?=w.1[k]?:=λk q5 hk2=>hk.block k q5 ε;have qi:g3∉pM f c:=λhm=>qd g3 hm (by rw[AU];simp[q7]);have q8:Al (Ad f w') ps al:=ha.bel λk q4=>hold k (ha.lts k q4) ε;have q9:Ad f w' (.pointer x) c:=hc.move λk q4=>hold k (hc.lt k q4) ε;obtain⟨l,qf,qj⟩:=Kw (q8.set i q9);obtain⟨old,q0⟩:∃old,al[i]?=some old:=⟨_,Ô hi⟩
  have q1:=FP (pM f) (NR c q0);have q2:=FP (pM f) (Hg q0);rw[ã]at q1 q2;have r1:=č.1 (q2.nodup_iff.1 p1);have q6:∀k∈(al.set i c).flatMap (pM f),k∈al.flatMap (pM f)\/k∈pM f c:=ε;have qe:∀k∈al.flatMap (pM f),k∈pM (f+1) (pS b g3 (.slice al [])):=λk q4=>by grind [pM,pS,AU]
  refine⟨rfl,X1 (l':=l) (sl':=sl) h0 (hvb.kept (hold b hvb.lt qb)) ?_ hs (by rw[<-qf];exact q8.set i q9) (Å rfl) (L9 ?_ ?_ ?_ (NW _) ?_) q6 ?_⟩
  .grind
  .grind
  .grind [pM,pS,AU]
  .grind
  .grind
  .exact⟨hk.os,hk.tape,hk.output,hk.size,λk q5 hk2=>hold k q5 (λe=>hk2 (by rw[Gg,if_neg q7,e];simp))⟩
 .cases e3
theorem OA{g:Nat}{q5:List pN}{sl:AT}{l l':List (Option Addr)}{w':AS}(h0:Ad (f+1) w u (pS b g (.slice al [])))(hn:(pM (f+1) (pS b g (.slice al []))).Nodup)(hs:sl.ownBlock=if g=0 then none else some g)(ha:Al (Ad f w) (l.map A2) al)(q6:Fb b sl l' w e w')(hal:∀W:AS,(∀k,k<w.1.size->k≠b->sl.ownBlock≠some k->W.1[k]?=w.1[k]?)->Al (Ad f W) (l'.map A2) q5)(hY:(q5.flatMap (pM f)).Nodup)(q0:∀k∈q5.flatMap (pM f),k∈al.flatMap (pM f)\/Z k)(hZ:∀k,Z k->k<w.1.size/\k∉pM (f+1) (pS b g (.slice al [])))(hpos:0<w.1.size):
  e=.returned (.tuple #[])/\∃g',(g'=g\/w.1.size<=g')/\El f w w' u (pS b g (.slice al [])) (pS b g' (.slice q5 [])) Z:=by
 obtain⟨p1,p2,p3,p4⟩:=FU hn;obtain⟨rfl,g2,cap,hvb,ho,qb,hk⟩:=q6;have q7:b∈pM (f+1) (pS b g (.slice al [])):=by rw[AU];simp
 have hg2:(sl.ownBlock=some g2/\g2=g/\g≠0)\/w.1.size<=g2:=by
  rcases qb with h|h
  .obtain⟨e1,e2⟩:=Im hs h;exact Å ⟨h,e1,e2⟩
  .exact À h
 have q4:g2≠0:=by
  rcases hg2 with⟨_,rfl,h⟩|h
  .exact h
  .omega
 have hlt:∀k∈al.flatMap (pM f),k<w.1.size:=ha.lts;have qd:b<w.1.size:=h0.lt b q7;refine⟨rfl,g2,hg2.imp (λh=>h.2.1) id,X1 (l':=l') h0 hvb ho (by rw[if_neg q4];rfl) (hal w' λk q8 hk2 q9=>hk.block k q8 (λh=>h.elim hk2 q9)) (hg2.imp (λh=>h.2.1) id) (L9 hY ?_ ?_ (NW _) ?_) q0 ?_⟩
 .intro hm;rcases q0 b hm with h|h
  .exact p2 h
  .exact (hZ b h).2 q7
 .rw[if_neg q4];intro hm;obtain rfl:b=g2:=by simpa using hm
  rcases hg2 with⟨_,rfl,h⟩|h
  .rw[if_neg h]at p3;exact p3 rfl
  .omega
 .intro k hk2 hm;rw[if_neg q4]at hk2;obtain rfl:k=g2:=by simpa using hk2
  rcases hg2 with⟨_,rfl,h0⟩|h
  .rcases q0 k hm with h|h
   .exact p4 k (by simp[h0]) h
   .exact (hZ k h).2 (by rw[AU];simp[h0])
  .rcases q0 k hm with h'|h'
   .have:=hlt k h';omega
   .have:=(hZ k h').1;omega
 .refine hk.mono λk hk2=>?_;rw[Gg];rcases hk2 with rfl|h
  .simp
  .obtain⟨rfl,h9⟩:=Im hs h;simp[h9]
theorem pE{g:Nat}(h:Ad (f+1) w u (pS b g (.slice al [])))(hn:(pM (f+1) (pS b g (.slice al []))).Nodup)(hi:i<=al.length)(hb:al.length<=1000000000000)(hc:Ad f w (.pointer x) c)(qf:(pM f c).Nodup)(q9:∀k∈pM f c,k∉pM (f+1) (pS b g (.slice al []))):
  A1 AI 249 #[plV pth b key i,.pointer x] w λe w'=>e=.returned (.tuple #[])/\∃g',(g'=g\/w.1.size<=g')/\El f w w' u (pS b g (.slice al [])) (pS b g' (.slice (rN i c al) [])) (λk=>k∈pM f c):=by
 have h0:=h;obtain⟨b2,g2,x2,e,hu,h⟩:=h;unfold pS at e;injection e with e;injection e with e1 e;injection e with e2 e;injection e with e3 _;injection e1 with e1;injection e1 with _ e1;injection e2 with e2;injection e2 with _ e2;obtain rfl:b=b2:=ζ;obtain rfl:g=g2:=ζ;rcases h with⟨j,_,_,rfl,_⟩|⟨n,_,rfl,_⟩|⟨s,_,rfl,_⟩|⟨qe,sl,ps,rfl,hvb,ho,hs,ha⟩|⟨es,n,D,rfl,_⟩
 .cases e3
 .cases e3
 .cases e3
 .injection e3 with e3 _;subst e3;obtain⟨l,rfl,hl⟩:=Kw ha;rw[æ]at ho;obtain⟨p1,p2,p3,p4⟩:=FU hn;have q7:sl.ownBlock≠some b:=ε;refine(UF (pth:=pth) (key:=key) (x:=x) hvb ho ζ ζ q7).mono ?_;intro e w' q5;have q1:=FP (pM f) (FK i c al);rw[ã]at q1;have qb:∀k∈al.flatMap (pM f),k∈pM (f+1) (pS b g (.slice al [])):=λk q0=>by grind [pM,pS,AU]
  have qd:∀k,k=b\/sl.ownBlock=some k->k∈pM (f+1) (pS b g (.slice al [])):=λk hk=>by
   grind [pM,pS,AU]
  have q4:∀k∈al.flatMap (pM f),k≠b/\sl.ownBlock≠some k:=ε;refine OA h0 hn hs ha q5 (λW hW=>?_) ?_ ?_ (λk hk=>⟨hc.lt k hk,q9 k hk⟩) (by have:=hvb.lt;omega)
  .have q6:Al (Ad f W) (l.map A2) al:=ha.bel λk q0=>hW k (ha.lts k q0) (q4 k q0).1 (q4 k q0).2;have q8:Ad f W (.pointer x) c:=hc.move λk q0=>hW k (hc.lt k q0) ε ε;rw[Le];exact q6.lins i q8
  .grind
  grind
 .cases e3
theorem pA{g:Nat}(h:Ad (f+1) w u (pS b g (.slice al [])))(hn:(pM (f+1) (pS b g (.slice al []))).Nodup)(hi:i<al.length):
  A1 AI 246 #[plV pth b key i] w λe w'=>e=.returned (.tuple #[])/\∃g',(g'=g\/w.1.size<=g')/\El f w w' u (pS b g (.slice al [])) (pS b g' (.slice (rH i al) [])) (λ_=>False):=by
 have h0:=h;obtain⟨b2,g2,x2,e,hu,h⟩:=h;unfold pS at e;injection e with e;injection e with e1 e;injection e with e2 e;injection e with e3 _;injection e1 with e1;injection e1 with _ e1;injection e2 with e2;injection e2 with _ e2;obtain rfl:b=b2:=ζ;obtain rfl:g=g2:=ζ;rcases h with⟨j,_,_,rfl,_⟩|⟨n,_,rfl,_⟩|⟨s,_,rfl,_⟩|⟨q9,sl,ps,rfl,hvb,ho,hs,ha⟩|⟨es,n,D,rfl,_⟩
 .cases e3
 .cases e3
 .cases e3
 .injection e3 with e3 _;subst e3;obtain⟨l,rfl,hl⟩:=Kw ha;rw[æ]at ho;obtain⟨p1,p2,p3,p4⟩:=FU hn;have q8:sl.ownBlock≠some b:=λh=>by
   obtain⟨rfl,h9⟩:=Im hs h;rw[if_neg h9]at p3;exact p3 rfl
  refine(TU (pth:=pth) (key:=key) hvb ho (show i<l.length from ζ) q8).mono ?_;intro e w' q6;obtain⟨old,q5⟩:∃old,al[i]?=some old:=⟨_,Ô hi⟩
  have q2:=FP (pM f) (Hg q5);rw[ã]at q2;have r1:=č.1 (q2.nodup_iff.1 p1);have q4:∀k∈al.flatMap (pM f),k≠b/\sl.ownBlock≠some k:=λk q0=>⟨λe=>p2 (e▸q0),λh=>by
   obtain⟨rfl,h9⟩:=Im hs h;exact p4 k (by simp[h9]) q0⟩
  refine OA h0 hn hs ha q6 (λW hW=>?_) r1.2.1 (λk q0=>Å (q2.mem_iff.2 (ý _ q0))) (λ_ h=>h.elim) (by have:=hvb.lt;omega);have q7:Al (Ad f W) (l.map A2) al:=ha.bel λk q0=>hW k (ha.lts k q0) (q4 k q0).1 (q4 k q0).2;rw[Lf];exact q7.ldel i
 .cases e3
end
theorem J0{f b g:Nat}{es:List (Lit×pN)}(hn:(pM (f+1) (pS b g (.map es))).Nodup):(es.flatMap λp=>pM f p.2).Nodup/\(b∉es.flatMap λp=>pM f p.2)/\(g∉es.flatMap λp=>pM f p.2)/\b≠g:=by
 rw[BC]at hn;grind
theorem Fh{f b g:Nat}{w:AS}{u:AT}{es:List (Lit×pN)}(h:Ad (f+1) w u (pS b g (.map es))):u=PtB b/\∃D,VB w b 6 n0 [] (.slice none 0 0) (.map (some g))/\w.ownsMap AI 9 RV g es.length (.map D)/\Pt (Ad f w) D es:=by
 obtain⟨b2,g2,x2,e,hu,h⟩:=h;unfold pS at e;injection e with e;injection e with e1 e;injection e with e2 e;injection e with e3 _;injection e1 with e1;injection e1 with _ e1;injection e2 with e2;injection e2 with _ e2;obtain rfl:b=b2:=ζ;obtain rfl:g=g2:=ζ;rcases h with⟨j,_,_,rfl,_⟩|⟨n,_,rfl,_⟩|⟨s,_,rfl,_⟩|⟨q0,sl,ps,rfl,hvb,ho,hs,ha⟩|⟨es,n,D,rfl,hvb,ho,hp⟩
 .cases e3
 .cases e3
 .cases e3
 .cases e3
 .cases e3;exact⟨hu,D,hvb,hp.len▸Zv ho,hp⟩
theorem Pt.bel{f:Nat}{w w':AS}{D:List (Lit×CR AT)}{es:List (Lit×pN)}(h:Pt (Ad f w) D es)(hk:∀k∈es.flatMap (λp=>pM f p.2),w'.1[k]?=w.1[k]?):Pt (Ad f w') D es:=
 Pt.mem (λ_ p hp hu=>hu.move ε) h
theorem Wo{f b g n:Nat}{w w':AS}{u:AT}{es es':List (Lit×pN)}{D':List (Lit×CR AT)}(h:Ad (f+1) w u (pS b g (.map es)))(hvb:VB w' b 6 n0 [] (.slice none 0 0) (.map (some g)))(ho:w'.ownsMap AI 9 RV g n (.map D'))(hp:Pt (Ad f w') D' es')(hnd:(b::g::es'.flatMap (λp=>pM f p.2)).Nodup)(hZ:∀k∈es'.flatMap (λp=>pM f p.2),k∈es.flatMap (λp=>pM f p.2)\/Z k)(hk:Aw (λk=>k∈sQ (pS b g (.map es))) w w'):
  El f w w' u (pS b g (.map es)) (pS b g (.map es')) Z:=by
 obtain⟨hu,_⟩:=Fh h;refine⟨⟨b,g,_,rfl,hu,ε⟩,by rw[BC];exact hnd,?_,hk⟩;grind [BC,pS,pM]
theorem N7{f:Nat}(k:Lit)(es:List (Lit×pN)):((qY k es).flatMap λp=>pM f p.2).Sublist (es.flatMap λp=>pM f p.2):=by
 unfold qY;induction es with
 |nil=>grind
 |cons y r ih=>
  grind
section
variable{f:Nat}{w:AS}{u:AT}{c:pN}{pth:AT}{b g i:Nat}{key:By}{x:Option Addr}{es:List (Lit×pN)}
theorem Sm{w':AS}{D:List (Lit×CR AT)}{n:Nat}(h:Ad (f+1) w u (pS b g (.map es)))(hn:(pM (f+1) (pS b g (.map es))).Nodup)(hc:Ad f w (.pointer x) c)(q8:(pM f c).Nodup)(q5:∀k∈pM f c,k∉pM (f+1) (pS b g (.map es)))(hvb:VB w b 6 n0 [] (.slice none 0 0) (.map (some g)))(hp:Pt (Ad f w) D es)(ho:w'.ownsMap AI 9 RV g n (DataW.put (.map D) (.string key) (.held (.pointer x))))(hk:w.grownBy w' (some g)):
  El f w w' u (pS b g (.map es)) (pS b g (.map (qI (.string key) c es))) (λk=>k∈pM f c):=by
 obtain⟨p1,p2,p3,p4⟩:=J0 hn;have hold:∀k,k<w.1.size->k≠g->w'.1[k]?=w.1[k]?:=λk q6 hk2=>hk.block k q6 (λe=>hk2 (Î e));have hb:b∉pM f c:=λhm=>q5 b hm (by rw[BC];simp);have hg:g∉pM f c:=λhm=>q5 g hm (by rw[BC];simp);have q9:Pt (Ad f w') D es:=hp.bel λk q0=>hold k (hp.lts k q0) (λe=>p3 (e▸q0));have q7:Ad f w' (.pointer x) c:=hc.move λk q0=>hold k (hc.lt k q0) (λe=>hg (e▸q0));have q:=(DQ (.string key) c es).flatMap_right (λp=>pM f p.2);rw[ã]at q;have s:=N7 (f:=f) (.string key) es;have q4:∀k∈(qI (.string key) c es).flatMap (λp=>pM f p.2),k∈es.flatMap (λp=>pM f p.2)\/k∈pM f c:=λk q0=>by
  rcases ó.1 (q.mem_iff.1 q0)with h|h
  .exact À h
  .exact Å (s.subset h)
 have hnd:((qI (.string key) c es).flatMap (λp=>pM f p.2)).Nodup:=q.nodup_iff.2 (č.2 ⟨q8,p1.sublist s,λy hy z hz e=>q5 y hy (by rw[BC];exact Ø _ (Ø _ (s.subset (e▸hz))))⟩);refine Wo h (hvb.kept (hold b hvb.lt p4)) ho (Pt.insert _ _ _ q7 (Pt.filter (λc=>!c.sameKey (.string key)) q9)) ?_ q4 ⟨hk.os,hk.tape,hk.output,hk.size,λk q6 hk2=>hold k q6 (λe=>hk2 (by rw[Gf,e];simp))⟩;refine ā.2 ⟨λhm=>?_,ā.2 ⟨λhm=>?_,hnd⟩⟩
 .rcases Ë.1 hm with e|hm
  .exact p4 e
  .exact (q4 b hm).elim p2 hb
 .exact (q4 g hm).elim p3 hg
theorem oX(h:Ad (f+1) w u (pS b g (.map es)))(hn:(pM (f+1) (pS b g (.map es))).Nodup)(q5:key.length<=1048576)(hl:es.length<=1000000000000)(hc:Ad f w (.pointer x) c)(q4:(pM f c).Nodup)(q0:∀k∈pM f c,k∉pM (f+1) (pS b g (.map es))):
  A1 AI 250 #[plV pth b key i,.pointer x] w λe w'=>e=.returned (.tuple #[])/\El f w w' u (pS b g (.map es)) (pS b g (.map (qI (.string key) c es))) (λk=>k∈pM f c):=by
 obtain⟨_,D,hvb,ho,hp⟩:=Fh h;refine(eS (pth:=pth) (i:=i) (pu:=x) q5 (by unfold Bs;omega) hvb ho).mono λe w' ⟨rfl,ho',hk⟩=>?_;exact⟨rfl,Sm h hn hc q4 q0 hvb hp ho' hk⟩
theorem pD(h:Ad (f+1) w u (pS b g (.map es)))(hn:(pM (f+1) (pS b g (.map es))).Nodup)(q5:key.length<=1048576)(hl:es.length<=1000000000000)(hc:Ad f w (.pointer x) c)(q4:(pM f c).Nodup)(q0:∀k∈pM f c,k∉pM (f+1) (pS b g (.map es))):
  A1 AI 249 #[plV pth b key i,.pointer x] w λe w'=>e=.returned (.tuple #[])/\El f w w' u (pS b g (.map es)) (pS b g (.map (qI (.string key) c es))) (λk=>k∈pM f c):=by
 obtain⟨_,D,hvb,ho,hp⟩:=Fh h;refine(UE (pth:=pth) (i:=i) (pu:=x) q5 (by unfold Bs;omega) hvb ho).mono λe w' ⟨rfl,ho',hk⟩=>?_;exact⟨rfl,Sm h hn hc q4 q0 hvb hp ho' hk⟩
theorem oZ(h:Ad (f+1) w u (pS b g (.map es)))(hn:(pM (f+1) (pS b g (.map es))).Nodup)(q5:key.length<=1048576):
  A1 AI 246 #[plV pth b key i] w λe w'=>e=.returned (.tuple #[])/\El f w w' u (pS b g (.map es)) (pS b g (.map (qY (.string key) es))) (λ_=>False):=by
 obtain⟨_,D,hvb,ho,hp⟩:=Fh h;obtain⟨p1,p2,p3,p4⟩:=J0 hn;refine(TS (pth:=pth) (i:=i) q5 hvb ho).mono λe w' ⟨rfl,ho',hk⟩=>?_;have hold:∀k,k<w.1.size->k≠g->w'.1[k]?=w.1[k]?:=λk q4 hk2=>hk.block k q4 (λe=>hk2 (Î e));have q6:Pt (Ad f w') D es:=hp.bel λk q0=>hold k (hp.lts k q0) (λe=>p3 (e▸q0));have s:=N7 (f:=f) (.string key) es;refine⟨rfl,Wo h (hvb.kept (hold b hvb.lt p4)) ho' (Pt.filter (λc=>!c.sameKey (.string key)) q6) ?_ (λk q0=>Å (s.subset q0)) ⟨hk.os,hk.tape,hk.output,hk.size,λk q4 hk2=>hold k q4 (λe=>hk2 (by rw[Gf,e];simp))⟩⟩;refine ā.2 ⟨λhm=>?_,ā.2 ⟨λhm=>p3 (s.subset hm),p1.sublist s⟩⟩;rcases Ë.1 hm with e|hm
 .exact p4 e
 .exact p2 (s.subset hm)
end
def DK(n:pN)(i m:Nat)(key:By):Prop:=(∃b g al,n=pS b g (.slice al [])/\i<al.length+m/\al.length<=1000000000000)\/∃b g es,n=pS b g (.map es)/\key.length<=1048576/\es.length<=1000000000000
def qO(n:pN):Nat:=match n with|.agg (.lit (.int _ b)::_)=>b.toNat|_=>0
section
variable{f:Nat}{w:AS}{u:AT}{n c:pN}{pth:AT}{i:Nat}{key:By}{x:Option Addr}
def Vl(f:Nat)(w:AS)(u:AT)(n n':pN)(Z:Nat->Prop)(e:C1)(w':AS):Prop:=
 e=.returned (.tuple #[])/\∃n2,(er (f+1) n2=er (f+1) n'/\AM n2=AM n'/\∀k∈sQ n2,k∈sQ n\/w.1.size<=k)/\El f w w' u n n2 Z
theorem Sy{b g g' q:Nat}{q0:List pN}(h:g'=g\/q<=g'):∀k∈sQ (pS b g' (.slice q0 [])),k∈sQ (pS b g (.slice al []))\/q<=k:=by
 intro k hk;rw[Gg]at hk |-;rcases Ë.1 hk with rfl|hk
 .exact Å φ
 .split at hk
  .cases hk
  .rename_i h0;obtain rfl:k=g':=by simpa using hk
   rcases h with rfl|h
   .exact Å (by simp[h0])
   .exact À h
theorem Xj(f b g g':Nat)(al:List pN):er (f+1) (pS b g (.slice al []))=er (f+1) (pS b g' (.slice al [])):=by rw[vF,vF]
theorem Pj(h:Ad (f+1) w u n)(hn:(pM (f+1) n).Nodup)(hi:DK n i 0 key)(hc:Ad f w (.pointer x) c)(q4:(pM f c).Nodup)(q0:∀k∈pM f c,k∉pM (f+1) n):
  A1 AI 250 #[plV pth (qO n) key i,.pointer x] w (Vl f w u n (Cm i key c n) (λk=>k∈pM f c)):=by
 rcases hi with⟨b,g,al,rfl,h1,h2⟩|⟨b,g,es,rfl,h1,h2⟩
 .exact (oY h hn h1 hc q4 q0).mono λe w' ⟨he,h⟩=>⟨he,_,⟨rfl,rfl,λk hk=>Å hk⟩,h⟩
 .exact (oX h hn h1 h2 hc q4 q0).mono λe w' ⟨he,h⟩=>⟨he,_,⟨rfl,rfl,λk hk=>Å hk⟩,h⟩
theorem KU(h:Ad (f+1) w u n)(hn:(pM (f+1) n).Nodup)(hi:DK n i 1 key)(hc:Ad f w (.pointer x) c)(q4:(pM f c).Nodup)(q0:∀k∈pM f c,k∉pM (f+1) n):
  A1 AI 249 #[plV pth (qO n) key i,.pointer x] w (Vl f w u n (Ct i key c n) (λk=>k∈pM f c)):=by
 rcases hi with⟨b,g,al,rfl,h1,h2⟩|⟨b,g,es,rfl,h1,h2⟩
 .exact (pE h hn ζ h2 hc q4 q0).mono λe w' ⟨he,g',hg,h⟩=>⟨he,_,⟨Xj f b g' g _,rfl,Sy hg⟩,h⟩
 .exact (pD h hn h1 h2 hc q4 q0).mono λe w' ⟨he,h⟩=>⟨he,_,⟨rfl,rfl,λk hk=>Å hk⟩,h⟩
theorem KO(h:Ad (f+1) w u n)(hn:(pM (f+1) n).Nodup)(hi:DK n i 0 key):
  A1 AI 246 #[plV pth (qO n) key i] w (Vl f w u n (Cr i key n) (λ_=>False)):=by
 rcases hi with⟨b,g,al,rfl,h1,h2⟩|⟨b,g,es,rfl,h1,h2⟩
 .exact (pA h hn h1).mono λe w' ⟨he,g',hg,h⟩=>⟨he,_,⟨Xj f b g' g _,rfl,Sy hg⟩,h⟩
 .exact (oZ h hn h1).mono λe w' ⟨he,h⟩=>⟨he,_,⟨rfl,rfl,λk hk=>Å hk⟩,h⟩
end
theorem Mt{f:Nat}{p:List Nat}{w w':AS}{v u:AT}{T n n2:pN}(hT:Ad (f+1+p.length) w v T)(hs:qE p T=some n)(hN:(pM (f+1+p.length) T).Nodup)(hu:Ad (f+1) w u n)(h:El f w w' u n n2 Z)(hZ:∀k,Z k->k<w.1.size/\k∉pM (f+1+p.length) T):
  Ad (f+1+p.length) w' v (qT p n2 T)/\(pM (f+1+p.length) (qT p n2 T)).Nodup/\(∀k∈pM (f+1+p.length) (qT p n2 T),k∈pM (f+1+p.length) T\/Z k\/w.1.size<=k)/\Aw (λk=>k∈pM (f+1+p.length) T) w w':=by
 have hlt:=hT.lt;refine⟨Ad.put hT hs hN (λk q0 hk2=>h.kept.block k (hlt k q0) (λq4=>hk2 (JZ hu k q4))) (λu2 q5=>?_),V7 hs hN h.nd (λk q0 hk2=>?_),?_,h.kept.mono λk hk=>DO hs k (JZ hu k hk)⟩
 .obtain rfl:=q5.uniq hu;exact h.tr
 .rcases h.sub k q0 with h1|h1|h1
  .exact h1
  .grind
  grind
 .intro k hk;rcases kR hs k hk with h1|h1
  .grind
  .exact (h.sub k h1).imp (DO hs k) id
structure BW(L:Nat)(v:AT)(T:pN)(M N:Nat->Prop)(wk w:AS):Prop where
 tree:∃T',er L T'=er L T/\Ad L w v T'/\(pM L T').Nodup/\∀k∈pM L T',¬M k/\¬N k
 held:∀k,M k->w.1[k]?=wk.1[k]?
 low:∀k,M k->k<w.1.size
theorem BW.shift{L:Nat}{v:AT}{T T2:pN}{M:Nat->Prop}{q0 w:AS}(h:BW L v T M N wk w)(hT:er L T2=er L T)(hk:∀k,M k->q0.1[k]?=wk.1[k]?):BW L v T2 M N q0 w:=by
 obtain⟨T',e,h1,h2,h3⟩:=h.tree;exact⟨ε,λk hm=>(h.held k hm).trans (hk k hm).symm,h.low⟩
def dJ(N:Nat->Prop)(w w':AS):Prop:=w'.os=w.os/\w'.tape=w.tape/\w'.output=w.output/\w.1.size<=w'.1.size/\∀k,N k->w'.1[k]?=w.1[k]?
theorem Kn{f:Nat}{p:List Nat}{v:AT}{T0 m0 m1:pN}{M0 M1:Nat->Prop}{wk0 wk1 wt w:AS}(h0:Ad (f+1+p.length) wt v T0)(hs:qE p T0=some m0)(hA:BW (f+1+p.length) v (qT p m1 T0) M1 N wk1 w):
  ∃u n',er (f+1) n'=er (f+1) m1/\Ad (f+1) w u n'/\(pM (f+1) n').Nodup/\(∀k∈pM (f+1) n',¬M1 k/\¬N k)/\
   ∀(n2:pN) (Z:Nat->Prop) (w':AS),El f w w' u n' n2 Z->er (f+1) n2=er (f+1) m0->(∀k,Z k->M1 k/\¬M0 k)->(∀k,M0 k->M1 k/\wk1.1[k]?=wk0.1[k]?)->(∀k,N k ->¬M1 k/\k<w.1.size) ->
    BW (f+1+p.length) v T0 M0 N wk0 w'/\dJ N w w':=by
 obtain⟨T',e,h1,h2,h3⟩:=hA.tree;have q4:qE p (qT p m1 T0)=some m1:=R5 m1 hs;have e1:=Mq p (f+1) T';rw[e,Mq p (f+1),q4]at e1;obtain⟨n',q0,en⟩:∃n',qE p T'=some n'/\er (f+1) n'=er (f+1) m1:=by
  cases hx:qE p T' with
  |none=>grind
  |some n'=>grind
 obtain⟨u,hu⟩:=Ad.at (f:=f+1) h1 q0;refine⟨u,n',en,hu,CE q0 h2,λk hk=>h3 k (DO q0 k hk),?_⟩;intro n2 Z w' q7 e2 hZ hM hN;have q6:∀k,Z k->k<w.1.size/\k∉pM (f+1+p.length) T':=λk hk=>⟨hA.low k (hZ k hk).1,ε⟩
 obtain⟨t1,t2,t3,t4⟩:=Mt h1 q0 h2 hu q7 q6;have q5:=Mq p (f+1) T0;rw[hs]at q5;have eT:er (f+1+p.length) (qT p n2 T')=er (f+1+p.length) T0:=by
  rw[Cv p (f+1) n2 q0,e2,e,Cv p (f+1) m1 hs,Sl _ _ q5,<-Cv p (f+1) m0 hs,Ad.put_self h0 hs]
 refine⟨⟨⟨qT p n2 T',eT,t1,t2,λk hk=>?_⟩,λk hk=>?_,λk hk=>Õ (hA.low k (hM k hk).1) t4.size⟩,t4.os,t4.tape,t4.output,t4.size,λk hk=>t4.block k (hN k hk).2 λhm=>(h3 k hm).2 hk⟩
 .rcases t3 k hk with h|h|h
  .grind
  .grind
  .exact⟨λhm=>by have:=hA.low k (hM k hm).1;omega,ε⟩
 .rw[t4.block k (hA.low k (hM k hk).1) ε,hA.held k (hM k hk).1,(hM k hk).2]
theorem DK.er{f i q:Nat}{w:AS}{u:AT}{n m:pN}{key:By}(hn:Ad (f+1) w u n)(e:er (f+1) n=er (f+1) m)(h:DK m i q key):DK n i q key/\qO n=qO m/\tR n:=by
 rcases h with⟨b,g,al,rfl,h1,h2⟩|⟨b,g,es,rfl,h1,h2⟩
 .obtain⟨g',q0,rfl,e2⟩:=hn.er_arr e;have hl:q0.length=al.length:=by have:=congrArg CH e2;grind
  exact⟨Å ε,rfl,Å ⟨b,g',q0,rfl⟩⟩
 .obtain⟨es',rfl,e2⟩:=hn.er_obj e;have hl:es'.length=es.length:=by have:=congrArg CH e2;grind
  exact⟨À ε,rfl,À ⟨b,g,es',rfl⟩⟩
def Be(w:AS)(q:Nat)(pth:AT)(b:Nat)(key:By)(i:Nat):Prop:=w.1[q]?=some (.cells #[pth,PtB b,.string ⟨key.toArray⟩,InB i] 185 (0,0))
def Ib(w:AS)(q:Nat)(x:Option Addr):Prop:=w.1[q]?=some (.cells #[.pointer x] 80 (0,0))
section
variable{w:AS}{q q2 b i:Nat}{pth:AT}{key:By}{x:Option Addr}{Q:AS->Prop}
theorem Be.c0(h:Be w q pth b key i):CeB w q 0=some pth:=ck h
theorem Be.c1(h:Be w q pth b key i):CeB w q 1=some (PtB b):=ck h
theorem Be.c2(h:Be w q pth b key i):CeB w q 2=some (.string ⟨key.toArray⟩):=ck h
theorem Be.c3(h:Be w q pth b key i):CeB w q 3=some (InB i):=ck h
theorem Ib.c0(h:Ib w q x):CeB w q 0=some (.pointer x):=ck h
def Ent(f:Nat):Prop:=∀args w,(callFunc f args).run AI w=.ok (.enter f args) w
theorem Kf{f:FuncId}{fn:Func}{c:Code}(hf:Tryz.prog.funcs[f]?=some fn)(q0:(fn.name == "runtime.NumGoroutine")=false)(hb:fn.body=some c):Ent f:=by
 intro args w;have h1:¬fn.name = "runtime.NumGoroutine" :=by simpa using q0
 simp[callFunc,hf,h1,hb]
theorem UQ:Ent 252:=Kf func252 δ rfl
theorem UP:Ent 248:=Kf func248 δ rfl
theorem aO:Ent 251:=Kf func251 δ rfl
theorem Qu(hq:Be w q pth b key i)(hC:A1 AI 246 #[plV pth b key i] w λe w'=>e=.returned (.tuple #[])/\Q w'):
  A1 AI 252 #[PtB q] w λe w'=>e=.returned (.tuple #[])/\Q w':=by
 have c0:=hq.c0;have c1:=hq.c1;have c2:=hq.c2;have c3:=hq.c3;have HC:=Ab hC;clear hC hq;go_enter func252,ntmps252;go_wp2_with fail;refine HC.u.mono ?_;rintro e w' ⟨rfl,hQ⟩;go_wp2;exact Ĝ (þ rfl _ _ _) rfl ⟨rfl,hQ⟩
theorem Qr(hq:Be w q pth b key i)(hx:Ib w q2 x)(hC:A1 AI 249 #[plV pth b key i,.pointer x] w λe w'=>e=.returned (.tuple #[])/\Q w'):
  A1 AI 248 #[PtB q,PtB q2] w λe w'=>e=.returned (.tuple #[])/\Q w':=by
 have c0:=hq.c0;have c1:=hq.c1;have c2:=hq.c2;have c3:=hq.c3;have d0:=hx.c0;have HC:=Ab hC;clear hC hq hx;go_enter func248,ntmps248;go_wp2_with fail;refine HC.u.mono ?_;rintro e w' ⟨rfl,hQ⟩;go_wp2;exact Ĝ (þ rfl _ _ _) rfl ⟨rfl,hQ⟩
theorem U3(hq:Be w q pth b key i)(hx:Ib w q2 x)(hC:A1 AI 250 #[plV pth b key i,.pointer x] w λe w'=>e=.returned (.tuple #[])/\Q w'):
  A1 AI 251 #[PtB q,PtB q2] w λe w'=>e=.returned (.tuple #[])/\Q w':=by
 have c0:=hq.c0;have c1:=hq.c1;have c2:=hq.c2;have c3:=hq.c3;have d0:=hx.c0;have HC:=Ab hC;clear hC hq hx;go_enter func251,ntmps251;go_wp2_with fail;refine HC.u.mono ?_;rintro e w' ⟨rfl,hQ⟩;go_wp2;exact Ĝ (þ rfl _ _ _) rfl ⟨rfl,hQ⟩
end
theorem vU{k:Lit}{c:pN}{es:List (Lit×pN)}:(qI k c es).length<=es.length+1:=by
 have h1:=(DQ k c es).length_eq;have h2:(qY k es).length<=es.length:=ņ _ _;grind
def Bv(n:pN)(i:Nat)(key:By)(c:pN):Prop:=(∃b g al,n=pS b g (.slice al [])/\al[i]?=some c)\/∃b g es,n=pS b g (.map es)/\(A3 key,c)∈es/\AQ es
def JA(n:pN)(i:Nat)(key:By):Prop:=(∃b g al,n=pS b g (.slice al [])/\i<=al.length)\/∃b g es,n=pS b g (.map es)/\∀p∈es,p.1≠A3 key
theorem JA.back{n c:pN}{i:Nat}{key:By}(h:JA n i key):Cr i key (Ct i key c n)=n:=by
 rcases h with⟨b,g,al,rfl,h⟩|⟨b,g,es,rfl,h⟩
 .unfold Cr Ct;rw[Ev,Ev,N9 c h]
 .unfold Cr Ct;rw[Eu,Eu,N6,WE h]
theorem Bv.ins{n c:pN}{i:Nat}{key:By}(h:Bv n i key c):Ct i key c (Cr i key n)=n:=by
 rcases h with⟨b,g,al,rfl,h⟩|⟨b,g,es,rfl,h,hs⟩
 .unfold Cr Ct;rw[Ev,Ev,Hj h]
 .unfold Cr Ct;rw[Eu,Eu,J2,Hi hs h]
theorem Bv.set{n c d:pN}{i:Nat}{key:By}(h:Bv n i key c):Cm i key c (Cm i key d n)=n:=by
 rcases h with⟨b,g,al,rfl,h⟩|⟨b,g,es,rfl,h,hs⟩
 .unfold Cm;rw[Ev,Ev,WG h]
 .unfold Cm;rw[Eu,Eu,Wx,Hi hs h]
theorem JA.box{n:pN}{i:Nat}{key:By}(h:JA n i key):tR n:=h.imp (λ⟨b,g,al,e,_⟩=>⟨b,g,al,e⟩) (λ⟨b,g,es,e,_⟩=>⟨b,g,es,e⟩)
theorem Bv.box{n c:pN}{i:Nat}{key:By}(h:Bv n i key c):tR n:=h.imp (λ⟨b,g,al,e,_⟩=>⟨b,g,al,e⟩) (λ⟨b,g,es,e,_⟩=>⟨b,g,es,e⟩)
theorem vG{F:List pN->List pN}{G:List (Lit×pN)->List (Lit×pN)}{n:pN}(h:tR n):tR (uP F G n)/\qO (uP F G n)=qO n:=by
 rcases h with⟨b,g,al,rfl⟩|⟨b,g,es,rfl⟩
 .exact⟨Å ⟨b,g,F al,rfl⟩,rfl⟩
 .exact⟨À ⟨b,g,G es,rfl⟩,rfl⟩
def Dd(n:pN)(key:By):Prop:=(AM n).length+1<=1000000000000/\key.length<=1048576
theorem JA.at{n c:pN}{i:Nat}{key:By}(h:JA n i key)(hr:Dd n key):DK n i 1 key/\DK (Ct i key c n) i 0 key:=by
 obtain⟨h1,h2⟩:=hr;rcases h with⟨b,g,al,rfl,h⟩|⟨b,g,es,rfl,h⟩
 .rw[Cs]at h1;have:=Je c h;exact⟨Å ε,Å ⟨b,g,rN i c al,rfl,ζ,ζ⟩⟩
 .rw[Cg,æ]at h1;have:=vU (k:=.string key) (c:=c) (es:=es);exact⟨À ε,À ⟨b,g,qI (.string key) c es,rfl,h2,ζ⟩⟩
theorem Bv.at{n c:pN}{i:Nat}{key:By}(h:Bv n i key c)(hr:Dd n key):DK n i 0 key/\DK (Cr i key n) i 1 key/\∀d,DK (Cm i key d n) i 0 key:=by
 obtain⟨h1,h2⟩:=hr;rcases h with⟨b,g,al,rfl,h⟩|⟨b,g,es,rfl,h,_⟩
 .rw[Cs]at h1;obtain⟨hi,_⟩:=ß.1 h;have:=Lg hi;exact⟨Å ε,Å ⟨b,g,rH i al,rfl,ζ,ζ⟩,λd=>Å ⟨b,g,al.set i d,rfl,ε,ω⟩⟩
 .rw[Cg,æ]at h1;have h3:(qY (.string key) es).length<=es.length:=ņ _ _;exact⟨À ε,À ⟨b,g,qY (.string key) es,rfl,h2,ζ⟩,λd=>À ⟨b,g,qI (.string key) d es,rfl,h2,by have:=vU (k:=.string key) (c:=d) (es:=es);omega⟩⟩
def Fv(L:Nat)(v:AT)(fn:Nat)(cs:Array AT)(T0 T1:pN)(M0 M1:Nat->Prop)(wk0 wk1:AS):Prop:=
 ∀(N:Nat->Prop) (w:AS),(∀k,N k ->¬M1 k/\k<w.1.size)->BW L v T1 M1 N wk1 w->A1 AI fn cs w λe w'=>e=.returned (.tuple #[])/\BW L v T0 M0 N wk0 w'/\dJ N w w'
section
variable{f:Nat}{p:List Nat}{v:AT}{T0 m0 c x:pN}{M0 M1:Nat->Prop}{wk0 wk1 wt:AS}{q q2 i:Nat}{pth:AT}{key:By}{pc:Option Addr}
theorem RH(h0:Ad (f+1+p.length) wt v T0)(hs:qE p T0=some m0)(hf:JA m0 i key)(hr:Dd m0 key)(hq:Be wk1 q pth (qO m0) key i)(q4:M1 q)(hM:∀k,M0 k->M1 k/\wk1.1[k]?=wk0.1[k]?):
  Fv (f+1+p.length) v 252 #[PtB q] T0 (qT p (Ct i key c m0) T0) M0 M1 wk0 wk1:=by
 intro N w hN hA;obtain⟨u,n',en,hu,hnd,_,q0⟩:=Kn h0 hs hA;obtain⟨b1,b2,b3⟩:=DK.er hu en (hf.at hr).2;rw[show qO (Ct i key c m0)=qO m0 from(vG hf.box).2]at b2;refine Qu (b:=qO n') (by rw[b2];exact(hA.held q q4).trans hq) ((KO hu hnd b1).mono ?_);rintro e w' ⟨rfl,n2,⟨e2,_⟩,hE⟩;refine⟨rfl,q0 n2 _ w' hE ?_ (λ_ h=>h.elim) hM hN⟩;rw[e2,Xk b3,en,<-Xk (show tR (Ct i key c m0)from(vG hf.box).1),hf.back]
theorem RG(h0:Ad (f+1+p.length) wt v T0)(hs:qE p T0=some m0)(hf:Bv m0 i key c)(hr:Dd m0 key)(hq:Be wk1 q pth (qO m0) key i)(q8:M1 q)(hx:Ib wk1 q2 pc)(q9:M1 q2)(hc:Ad f wk1 (.pointer pc) c)(q4:(pM f c).Nodup)(q0:∀k∈pM f c,M1 k/\¬M0 k)(hM:∀k,M0 k->M1 k/\wk1.1[k]?=wk0.1[k]?):
  Fv (f+1+p.length) v 248 #[PtB q,PtB q2] T0 (qT p (Cr i key m0) T0) M0 M1 wk0 wk1:=by
 intro N w hN hA;obtain⟨u,n',en,hu,hnd,q7,q6⟩:=Kn h0 hs hA;obtain⟨b1,b2,b3⟩:=DK.er hu en (hf.at hr).2.1;rw[show qO (Cr i key m0)=qO m0 from(vG hf.box).2]at b2;have q5:Ad f w (.pointer pc) c:=hc.move λk hk=>hA.held k (q0 k hk).1;refine Qr (b:=qO n') (by rw[b2];exact(hA.held q q8).trans hq) ((hA.held q2 q9).trans hx) ((KU hu hnd b1 q5 q4 (λk hk hm=>(q7 k hm).1 (q0 k hk).1)).mono ?_);rintro e w' ⟨rfl,n2,⟨e2,_⟩,hE⟩;refine⟨rfl,q6 n2 _ w' hE ?_ q0 hM hN⟩;rw[e2,Xn b3,en,<-Xn (show tR (Cr i key m0)from(vG hf.box).1),hf.ins]
theorem XW(h0:Ad (f+1+p.length) wt v T0)(hs:qE p T0=some m0)(hf:Bv m0 i key c)(hr:Dd m0 key)(hq:Be wk1 q pth (qO m0) key i)(q7:M1 q)(hx:Ib wk1 q2 pc)(q8:M1 q2)(hc:Ad f wk1 (.pointer pc) c)(q4:(pM f c).Nodup)(q0:∀k∈pM f c,M1 k/\¬M0 k)(hM:∀k,M0 k->M1 k/\wk1.1[k]?=wk0.1[k]?):
  Fv (f+1+p.length) v 251 #[PtB q,PtB q2] T0 (qT p (Cm i key x m0) T0) M0 M1 wk0 wk1:=by
 intro N w hN hA;obtain⟨u,n',en,hu,hnd,q9,q6⟩:=Kn h0 hs hA;obtain⟨b1,b2,b3⟩:=DK.er hu en ((hf.at hr).2.2 x);rw[show qO (Cm i key x m0)=qO m0 from(vG hf.box).2]at b2;have q5:Ad f w (.pointer pc) c:=hc.move λk hk=>hA.held k (q0 k hk).1;refine U3 (b:=qO n') (by rw[b2];exact(hA.held q q7).trans hq) ((hA.held q2 q8).trans hx) ((Pj hu hnd b1 q5 q4 ε).mono ?_);rintro e w' ⟨rfl,n2,⟨e2,_⟩,hE⟩;refine⟨rfl,q6 n2 _ w' hE ?_ q0 hM hN⟩;rw[e2,Xi b3,en,<-Xi (show tR (Cm i key x m0)from(vG hf.box).1),hf.set]
end
abbrev Clo:=Nat×Array AT
def GX(c:Clo):AT:=.func (.func c.1) #[] c.2
theorem bP:(Tryz.prog.info? 230).map (λi=>(i.zero.map (λz=>z.cells.size),i.size,i.bytes))=some (some 5,5,72):=δ
theorem XU:∃i z,Tryz.prog.info? 230=some i/\i.zero=some z/\z.cells.size=5/\i.size=5/\i.bytes=72:=by
 obtain⟨i,hi,h⟩:=à.1 bP;simp_all
def FV(D:Nat)(rv jn iv:AT)(ch:Bool)(n:Nat)(xs new:List AT)(w:AS)(e:C1)(w':AS):Prop:=
 e=.returned (.tuple #[])/\∃g cap,DB w' D rv (SlB g (n+1) cap) ch iv/\w'.ownsRow 0 230 5 (SlB g (n+1) cap) (n+1) (xs++new)/\
  (jn.ownBlock=some g\/w.1.size<=g)/\Aw (λk=>k=D\/jn.ownBlock=some k) w w'
theorem DB.set1{w:AS}{D:Nat}{rv jn iv:AT}{ch:Bool}(h:DB w D rv jn ch iv)(v:AT):DB (w.setCell ⟨D,1,none⟩ v) D rv v ch iv:=by
 grind [DB,World.setCell]
theorem FV.of{w wa w3:AS}{D n g cap:Nat}{rv jn iv:AT}{ch:Bool}{xs new:List AT}{o:Obj}(hB:Bl w wa)(hA:DB wa D rv jn ch iv)(hj:jn.ownBlock≠some D)(ho:w3.ownsRow 0 230 5 (SlB g (n+1) cap) (n+1) (xs++new))(hg:(wa.alloc o).drew.grownBy w3 jn.ownBlock)(q5:jn.ownBlock=some g\/g=wa.1.size+1):
  FV D rv jn iv ch n xs new w (.returned (.tuple #[])) (w3.setCell ⟨D,1,none⟩ (SlB g (n+1) cap)):=by
 have hs:(wa.alloc o).drew.1.size=wa.1.size+1:=φ;have q4:=hA.lt;have hold:∀k,k<wa.1.size->jn.ownBlock≠some k->w3.1[k]?=wa.1[k]?:=λk hk hne=>(hg.block k ζ (λe=>hne e.symm)).trans (Ä wa o k hk);have q0:DB w3 D rv jn ch iv:=hA.kept (hold D q4 hj);have q6:g≠D:=ε;have hsz:=hB.size;refine⟨rfl,g,cap,q0.set1 _,Bz ho λk hk2=>?_,ε,?_⟩
 .simp[BY]at hk2;exact Æ _ _ _ _ ε
 .have h3:Aw (λk=>k=D\/jn.ownBlock=some k) w wa:=Aw.of_below hB;have h4:Aw (λk=>k=D\/jn.ownBlock=some k) w w3:=h3.trans (F':=λk=>jn.ownBlock=some k) ⟨hg.os,hg.tape,hg.output,by have:=hg.size;omega,ζ⟩ λk _ h=>À h;exact h4.setCell (p:=⟨D,1,none⟩) (Å (Å rfl)) _
theorem Ls{w:AS}{D:Nat}{rv jn iv:AT}{ch:Bool}{c:Clo}{k:Int}{pa x:Option Addr}{pl pc n:Nat}{xs:List AT}(hD:DB w D rv jn ch iv)(hj:w.ownsRow 0 230 5 jn n xs)(hn:n<=1000000000)(qb:jn.ownBlock≠some D):
  A1 AI 247 #[PtB D,GX c,.agg #[InB k,.slice pa pl pc,.slice none 0 0,.pointer x]] w (FV D rv jn iv ch n xs [GX c,InB k,.slice pa pl pc,.slice none 0 0,.pointer x] w):=by
 obtain⟨i0,z0,qf,hz0,qh,hz2,hz3⟩:=XU;have qd:=hD.lt;have HD:=Ab hD;have HJ:=Ab hj;have q9:=Ab qb;obtain⟨cf,cc⟩:=c;unfold GX;clear hD hj qb;go_enter func247,ntmps247;go_wp2_with fail;have q6:=Ê w (.cells #[InB k,.slice pa pl pc,.slice none 0 0,.pointer x] 178);have q8:=(Â w.1.size w).alloc (Á _) (.cells #[InB k,.slice pa pl pc,.slice none 0 0,.pointer x] 178);generalize w.alloc (.cells #[InB k,.slice pa pl pc,.slice none 0 0,.pointer x] 178)=wa at*;have q4:=HD.u.kept (q8.block D qd);have d1:=q4.c1;have b0:wa.cell? ⟨w.1.size,0,none⟩=some (InB k):=ck q6;have b1:wa.cell? ⟨w.1.size,1,none⟩=some (.slice pa pl pc):=ck q6;have b2:wa.cell? ⟨w.1.size,2,none⟩=some (.slice none 0 0):=ck q6;have b3:wa.cell? ⟨w.1.size,3,none⟩=some (.pointer x):=ck q6;have qg:=Bz (w':=wa) HJ.u λg hg=>q8.block g (Bt HJ.u g hg).1;have q5:D<wa.1.size:=q4.lt;have z1:∀o,(wa.alloc o).frozen? ⟨D,1,none⟩=false:=λo=>by rw[Ĕ (w:=wa) (Ä wa o D q5)];simp[C0,show wa.1[D]?=_ from q4]
 have y1:∀o,(wa.alloc o).cell? ⟨D,1,none⟩=some jn:=λo=>by rw[Ç (w:=wa) (Ä wa o D q5)];exact d1
 have nD:some D≠jn.ownBlock:=λe=>q9.u e.symm;have HB:=Ab q8;have HA:=Ab q4;clear q8 q4;have qi:w.1.size<wa.1.size:=ε;clear q6;go_region_law ((refine ġ _ θ _ _ _ θ 0 230 i0 z0 5 72 underlying112 qf hz0 hz2 hz3 qh η jn n xs θ ((qg.alloc _).drew) ⟨wa.1.size,0,none⟩ 1 1 [.func (.func cf) #[] cc,InB k,.slice pa pl pc,.slice none 0 0,.pointer x] θ θ (Ö (cs:=#[.func (.func cf) #[] cc,InB k,.slice pa pl pc,.slice none 0 0,.pointer x]) (t:=230) (fr:=(0,0)) (Ê wa _)) (by simp[Value.oneCell']) η (by unfold Bs;omega) ζ (Ď _) (wa.1.size+1) φ ?_;intro g cap w3 q7 q0 qe hlt;have zz:w3.frozen? ⟨D,1,none⟩=false:=(q0.frozen_far ⟨D,1,none⟩ ω nD).trans (z1 _);have yy:CeB w3 D 1=some jn:=(q0.cell_far ⟨D,1,none⟩ ω nD).trans (y1 _)));all_goals exact Ĝ (þ rfl _ _ _) rfl (FV.of HB.u HA.u q9.u q7 q0 qe)
abbrev plW(w:AS)(pa:Option Addr)(pl pc b:Nat)(key:By)(i:Nat):AS:=w.alloc (.cells #[.slice pa pl pc,PtB b,.string ⟨key.toArray⟩,InB i] 185)
abbrev xW(w:AS)(y:Option Addr):AS:=w.alloc (.cells #[.pointer y] 80)
section
variable{w:AS}{D b i n:Nat}{rv jn iv:AT}{ch:Bool}{key:By}{pa x y:Option Addr}{pl pc:Nat}{xs:List AT}
theorem Rx{Q:AS->Prop}(hn:n<=1000000000)(q4:jn.ownBlock≠some D)(hC:A1 AI 249 #[plV (.slice pa pl pc) b key i,.pointer x] (plW w pa pl pc b key i) λe w'=>e=.returned (.tuple #[])/\Q w')(hQ:∀w2,Q w2->Be w2 w.1.size (.slice pa pl pc) b key i/\DB w2 D rv jn ch iv/\w2.ownsRow 0 230 5 jn n xs):
  A1 AI 205 #[PtB D,plV (.slice pa pl pc) b key i,.pointer x] w λe w3=>
   ∃w2,Q w2/\FV D rv jn iv ch n xs [GX (252,#[.pointer (some ⟨w.1.size,0,none⟩)]),InB 1,.slice pa pl pc,.slice none 0 0,.pointer none] w2 e w3:=by
 have HC:=Ab hC;have HQ:=Ab hQ;have q5:=Ab q4;have q0:=Ê w (.cells #[.slice pa pl pc,PtB b,.string ⟨key.toArray⟩,InB i] 185);have HP:=Ab (show Be (plW w pa pl pc b key i) w.1.size (.slice pa pl pc) b key i from q0);clear hC hQ q4 q0;go_enter func205,ntmps205;go_wp2_with fail;refine HC.u.mono ?_;rintro e w2⟨rfl,hq⟩;obtain⟨g1,g2,g3⟩:=HQ.u w2 hq;have e0:=g1.c0;have G2:=Ab g2;have G3:=Ab g3;have q6:=Ab hq;clear g1 g2 g3 hq;go_wp2_with fail;refine(Ls (c:=(252,#[.pointer (some ⟨w.1.size,0,none⟩)])) G2.u G3.u hn q5.u).mono ?_;intro e w3 hL;obtain⟨rfl,q7⟩:=id hL;have HL:=Ab hL;clear hL q7;go_wp2;exact Ĝ (þ rfl _ _ _) rfl ⟨w2,q6.u,HL.u⟩
theorem Rt{Q:AS->AS->Prop}(hn:n<=1000000000)(q6:jn.ownBlock≠some D)(hG:A1 AI 159 #[plV (.slice pa pl pc) b key i] (plW w pa pl pc b key i) λe w'=>e=.returned (.pointer y)/\A5 (w.1.size+1) (plW w pa pl pc b key i) w')(hC:∀w2,A5 (w.1.size+1) (plW w pa pl pc b key i) w2->A1 AI 246 #[plV (.slice pa pl pc) b key i] (xW w2 y) λe w'=>e=.returned (.tuple #[])/\Q w2 w')(hQ:∀w2 w3,A5 (w.1.size+1) (plW w pa pl pc b key i) w2->Q w2 w3->Be w3 w.1.size (.slice pa pl pc) b key i/\Ib w3 w2.1.size y/\DB w3 D rv jn ch iv/\w3.ownsRow 0 230 5 jn n xs):
  A1 AI 199 #[PtB D,plV (.slice pa pl pc) b key i] w λe w4=>
   ∃w2 w3,A5 (w.1.size+1) (plW w pa pl pc b key i) w2/\Q w2 w3/\FV D rv jn iv ch n xs [GX (248,#[.pointer (some ⟨w.1.size,0,none⟩),.pointer (some ⟨w2.1.size,0,none⟩)]),InB 0,.slice pa pl pc,.slice none 0 0,.pointer y] w3 e w4:=by
 have HG:=Ab hG;have HC:=Ab hC;have HQ:=Ab hQ;have q7:=Ab q6;have q5:=Ê w (.cells #[.slice pa pl pc,PtB b,.string ⟨key.toArray⟩,InB i] 185);have HP:=Ab (show Be (plW w pa pl pc b key i) w.1.size (.slice pa pl pc) b key i from q5);clear hG hC hQ q6 q5;go_enter func199,ntmps199;go_wp2_with fail;refine HG.u.mono ?_;rintro e w2⟨rfl,hb⟩;have q4:Be w2 w.1.size (.slice pa pl pc) b key i:=(hb.block _ ζ).trans HP.u;have hlt:w.1.size<w2.1.size:=(È.1 q4).1;have q0:Be (xW w2 y) w.1.size (.slice pa pl pc) b key i:=(Ä w2 _ _ hlt).trans q4;have e0:=q0.c0;have e1:=q0.c1;have e2:=q0.c2;have e3:=q0.c3;have HB:=Ab hb;clear hb q4 q0;go_wp2_with fail;refine(HC.u w2 HB.u).mono ?_;rintro e w3⟨rfl,hq⟩;obtain⟨g0,g1,g2,g3⟩:=HQ.u w2 w3 HB.u hq;clear e0 e1 e2 e3;have e0:=g0.c0;have e4:=g1.c0;have G2:=Ab g2;have G3:=Ab g3;have q8:=Ab hq;clear g0 g1 g2 g3 hq;go_wp2_with fail;refine(Ls (c:=(248,#[.pointer (some ⟨w.1.size,0,none⟩),.pointer (some ⟨w2.1.size,0,none⟩)])) G2.u G3.u hn q7.u).mono ?_;intro e w4 hL;obtain⟨rfl,q9⟩:=id hL;have HL:=Ab hL;clear hL q9;go_wp2;exact Ĝ (þ rfl _ _ _) rfl ⟨w2,w3,HB.u,q8.u,HL.u⟩
theorem XK{Q:AS->AS->Prop}(hn:n<=1000000000)(q6:jn.ownBlock≠some D)(hG:A1 AI 159 #[plV (.slice pa pl pc) b key i] (plW w pa pl pc b key i) λe w'=>e=.returned (.pointer y)/\A5 (w.1.size+1) (plW w pa pl pc b key i) w')(hC:∀w2,A5 (w.1.size+1) (plW w pa pl pc b key i) w2->A1 AI 250 #[plV (.slice pa pl pc) b key i,.pointer x] (xW w2 y) λe w'=>e=.returned (.tuple #[])/\Q w2 w')(hQ:∀w2 w3,A5 (w.1.size+1) (plW w pa pl pc b key i) w2->Q w2 w3->Be w3 w.1.size (.slice pa pl pc) b key i/\Ib w3 w2.1.size y/\DB w3 D rv jn ch iv/\w3.ownsRow 0 230 5 jn n xs):
  A1 AI 200 #[PtB D,plV (.slice pa pl pc) b key i,.pointer x] w λe w4=>
   ∃w2 w3,A5 (w.1.size+1) (plW w pa pl pc b key i) w2/\Q w2 w3/\FV D rv jn iv ch n xs [GX (251,#[.pointer (some ⟨w.1.size,0,none⟩),.pointer (some ⟨w2.1.size,0,none⟩)]),InB 2,.slice pa pl pc,.slice none 0 0,.pointer y] w3 e w4:=by
 have HG:=Ab hG;have HC:=Ab hC;have HQ:=Ab hQ;have q7:=Ab q6;have q5:=Ê w (.cells #[.slice pa pl pc,PtB b,.string ⟨key.toArray⟩,InB i] 185);have HP:=Ab (show Be (plW w pa pl pc b key i) w.1.size (.slice pa pl pc) b key i from q5);clear hG hC hQ q6 q5;go_enter func200,ntmps200;go_wp2_with fail;refine HG.u.mono ?_;rintro e w2⟨rfl,hb⟩;have q4:Be w2 w.1.size (.slice pa pl pc) b key i:=(hb.block _ ζ).trans HP.u;have hlt:w.1.size<w2.1.size:=(È.1 q4).1;have q0:Be (xW w2 y) w.1.size (.slice pa pl pc) b key i:=(Ä w2 _ _ hlt).trans q4;have e0:=q0.c0;have e1:=q0.c1;have e2:=q0.c2;have e3:=q0.c3;have HB:=Ab hb;clear hb q4 q0;go_wp2_with fail;refine(HC.u w2 HB.u).mono ?_;rintro e w3⟨rfl,hq⟩;obtain⟨g0,g1,g2,g3⟩:=HQ.u w2 w3 HB.u hq;clear e0 e1 e2 e3;have e0:=g0.c0;have e4:=g1.c0;have G2:=Ab g2;have G3:=Ab g3;have q8:=Ab hq;clear g0 g1 g2 g3 hq;go_wp2_with fail;refine(Ls (c:=(251,#[.pointer (some ⟨w.1.size,0,none⟩),.pointer (some ⟨w2.1.size,0,none⟩)])) G2.u G3.u hn q7.u).mono ?_;intro e w4 hL;obtain⟨rfl,q9⟩:=id hL;have HL:=Ab hL;clear hL q9;go_wp2;exact Ĝ (þ rfl _ _ _) rfl ⟨w2,w3,HB.u,q8.u,HL.u⟩
end
theorem BW.less{L:Nat}{v:AT}{T:pN}{M:Nat->Prop}{w:AS}(h:BW L v T M' N wk w)(hM:∀k,M k->M' k):BW L v T M N wk w:=by
 obtain⟨T',e,h1,h2,h3⟩:=h.tree;exact⟨ε,λk hm=>h.held k (hM k hm),λk hm=>h.low k (hM k hm)⟩
def Und(L:Nat)(B:Nat)(v:AT)(Tb:pN)(Mb:Nat->Prop)(wb:AS):List Clo->pN->(Nat->Prop)->AS->Prop
 |[],T,M,wk=>∀N w,BW L v T M N wk w->BW L v Tb Mb N wb w
 |c::r,T,M,wk=>∃T0 M0 wk0,Und L B v Tb Mb wb r T0 M0 wk0/\Fv L v c.1 c.2 T0 T M0 M wk0 wk/\(∀k,M0 k->M k)/\(∀k∈uQ L T0,k<B)/\Ent c.1
theorem Und.up{L B B':Nat}{v:AT}{Tb:pN}{Mb:Nat->Prop}{wb:AS}(hB:B<=B'):∀{cs:List Clo}{T:pN}{M:Nat->Prop}{wk:AS},Und L B v Tb Mb wb cs T M wk->Und L B' v Tb Mb wb cs T M wk
 |[],_,_,_,h=>h
 |_::_,_,_,_,⟨T0,M0,wk0,h1,h2,h3,h4,h5⟩=>⟨T0,M0,wk0,Und.up hB h1,h2,h3,λk hk=>Õ (h4 k hk) hB,h5⟩
theorem Und.shift{L B:Nat}{v:AT}{Tb T T2:pN}{Mb M M2:Nat->Prop}{wb q0:AS}{cs:List Clo}(h:Und L B v Tb Mb wb cs T M wk)(hT:er L T2=er L T)(hM:∀k,M k->M2 k/\q0.1[k]?=wk.1[k]?):Und L B v Tb Mb wb cs T2 M2 q0:=by
 have key:∀N w,BW L v T2 M2 N q0 w->BW L v T M N wk w:=λN w hA=>(hA.less λk hk=>(hM k hk).1).shift hT.symm ε;cases cs with
 |nil=>exact λN w hA=>h N w (key N w hA)
 |cons c r=>
  obtain⟨T0,M0,wk0,h1,h2,h3,h4,h5⟩:=h;exact⟨T0,M0,wk0,h1,λN w hN hA=>h2 N w ε (key N w hA),ε,h4,h5⟩
def Jrn(w:AS)(G:Nat->Prop):List AT->List Clo->List pW->Prop
 |[],[],[]=>True
 |cv::kv::pv::fv::vv::r,c::s,o::t=>cv=GX c/\Ic w G kv pv fv vv o/\Jrn w G r s t
 |_,_,_=>False
theorem Jrn.move{w w':AS}{G G':Nat->Prop}(hk:∀k,G k->k<w.1.size->w'.1[k]?=w.1[k]?/\G' k):∀{xs:List AT}{cs:List Clo}{js:List pW},Jrn w G xs cs js->Jrn w' G' xs cs js
 |[],[],[],_=>trivial
 |_::_::_::_::_::_,_::_,_::_,⟨e,a,b⟩=>⟨e,a.move hk,Jrn.move hk b⟩
theorem Jrn.snoc{w:AS}{G:Nat->Prop}{cv kv pv fv vv:AT}{c:Clo}{o:pW}(hc:cv=GX c)(ho:Ic w G kv pv fv vv o):∀{xs:List AT}{cs:List Clo}{js:List pW},Jrn w G xs cs js->Jrn w G (xs++[cv,kv,pv,fv,vv]) (cs++[c]) (js++[o])
 |[],[],[],_=>⟨hc,ho,trivial⟩
 |_::_::_::_::_::_,_::_,_::_,⟨e,a,b⟩=>⟨e,a,Jrn.snoc hc ho b⟩
def GA(L:Nat)(Tb:pN)(wb:AS)(M:Nat->Prop)(k:Nat):Prop:=M k/\(wb.1.size<=k\/k∈pM L Tb)
structure B7(L:Nat)(w:AS)(D:Nat)(rv jn iv:AT)(ch:Bool)(Tb:pN)(Mb:Nat->Prop)(wb:AS)(T:pN)(M:Nat->Prop)(js:List pW):Prop where
 ex:∃xs cs,DB w D rv jn ch iv/\w.ownsRow 0 230 5 jn js.length xs/\Jrn w (GA L Tb wb M) xs cs js/\Und L w.1.size rv Tb Mb wb cs.reverse T M w
 jD:jn.ownBlock≠some D
 jM:∀g,jn.ownBlock=some g ->¬M g/\g∉pM L T
 tr:Ad L w rv T
 nd:(pM L T).Nodup
 dD:D∉pM L T/\¬M D
 low:∀k,M k->k<w.1.size/\k∉pM L T
 up:wb.1.size<=w.1.size/\∀k∈pM L T,wb.1.size<=k\/k∈pM L Tb
structure JEx(M M':Nat->Prop)(w w':AS):Prop where
 os:w'.os=w.os
 tape:w'.tape=w.tape
 output:w'.output=w.output
 size:w.1.size<=w'.1.size
 kept:∀k,M k->M' k/\w'.1[k]?=w.1[k]?
theorem JEx.refl(M:Nat->Prop)(w:AS):JEx M M w w:=⟨rfl,rfl,rfl,Á _,λ_ h=>⟨h,rfl⟩⟩
theorem JEx.trans{M M1 M2:Nat->Prop}{w:AS}(h:JEx M M1 w w1)(k:JEx M1 M2 w1 w2):JEx M M2 w w2:=
 ⟨k.os.trans h.os,k.tape.trans h.tape,k.output.trans h.output,Ã h.size k.size,λj hj=>⟨(k.kept j (h.kept j hj).1).1,(k.kept j (h.kept j hj).1).2.trans (h.kept j hj).2⟩⟩
section
variable{L:Nat}{w:AS}{D:Nat}{rv jn iv:AT}{ch:Bool}{Tb T:pN}{Mb M:Nat->Prop}{wb:AS}{js:List pW}
theorem B7.jlt(h:B7 L w D rv jn iv ch Tb Mb wb T M js):∀g,jn.ownBlock=some g->g<w.1.size:=by
 obtain⟨xs,cs,_,h2,_⟩:=h.ex;exact λg hg=>(Bt h2 g hg).1
theorem B7.dlt(h:B7 L w D rv jn iv ch Tb Mb wb T M js):D<w.1.size:=by
 obtain⟨xs,cs,h1,_⟩:=h.ex;exact h1.lt
theorem B7.grow{w':AS}(h:B7 L w D rv jn iv ch Tb Mb wb T M js)(hb:Bl w w')(X:Nat->Prop)(hX:∀k,X k->w.1.size<=k/\k<w'.1.size):
  B7 L w' D rv jn iv ch Tb Mb wb T (λk=>M k\/X k) js/\JEx M (λk=>M k\/X k) w w':=by
 obtain⟨xs,cs,h1,h2,h3,h4⟩:=h.ex;have q0:=h.jlt;have hlt:=h.tr.lt;have hM:∀k,M k->(M k\/X k)/\w'.1[k]?=w.1[k]?:=λk hk=>⟨Å hk,hb.block k (h.low k hk).1⟩
 refine⟨⟨⟨xs,cs,h1.kept (hb.block D h1.lt),Bz h2 λg hg=>hb.block g (q0 g hg),h3.move λk hk hl=>⟨(hM k hk.1).2,(hM k hk.1).1,hk.2⟩,(h4.shift rfl hM).up hb.size⟩,h.jD,λg hg=>⟨λhm=>hm.elim (h.jM g hg).1 ε,(h.jM g hg).2⟩,h.tr.bel hb,h.nd,⟨h.dD.1,λhm=>hm.elim h.dD.2 λhx=>by have:=(hX D hx).1;have:=h1.lt;omega⟩,λk hm=>?_,⟨Ã h.up.1 hb.size,h.up.2⟩⟩,⟨hb.os,hb.tape,hb.output,hb.size,hM⟩⟩;rcases hm with hm|hm
 .exact⟨Õ (h.low k hm).1 hb.size,(h.low k hm).2⟩
 grind
theorem B7.lay{w3 w4:AS}{T3:pN}{xs:List AT}{cs:List Clo}{c:Clo}{kv fv vv:AT}{o:pW}(h:B7 L w D rv jn iv ch Tb Mb wb T M js)(hx:Jrn w (GA L Tb wb M) xs cs js)(hu:Und L w.1.size rv Tb Mb wb cs.reverse T M w)(hk:Aw (λk=>k∈pM L T) w w3)(ht:Ad L w3 rv T3)(hn:(pM L T3).Nodup)(qb:D∉pM L T3)(qe:∀g,jn.ownBlock=some g->g∉pM L T3)(hM:∀k,M k->M' k)(q7:∀k,M' k->k<w3.1.size/\k∉pM L T3/\k≠D/\jn.ownBlock≠some k)(he:FV D rv jn iv ch js.length xs [GX c,kv,pv,fv,vv] w3 e w4)(ho:Ic w3 (GA L Tb wb M') kv pv fv vv o)(hT:er L T3=er L T1)(hB:(∀k,M k->M' k/\w4.1[k]?=w.1[k]?)->(∀k,M' k->w4.1[k]?=w3.1[k]?)->Fv L rv c.1 c.2 T T1 M M' w w4)(hin:Ent c.1)(q9:∀k∈pM L T3,wb.1.size<=k\/k∈pM L Tb):
  e=.returned (.tuple #[])/\∃jn',B7 L w4 D rv jn' iv ch Tb Mb wb T3 M' (js++[o])/\JEx M M' w w4:=by
 obtain⟨rfl,g,cap,g1,g2,g3,g4⟩:=he;have q6:=ht.lt;have q0:∀k,M' k->w4.1[k]?=w3.1[k]?:=λk hm=>g4.block k (q7 k hm).1 ε;have q4:∀k,M k->M' k/\w4.1[k]?=w.1[k]?:=λk hm=>⟨hM k hm,(q0 k (hM k hm)).trans (hk.block k (h.low k hm).1 (h.low k hm).2)⟩
 have qd:¬M' g/\g∉pM L T3:=by
  grind
 have q8:g≠D:=by
  rcases g3 with h'|h'
  .exact λe=>h.jD (by rw[h',e])
  .have:=h.dlt;have:=hk.size;omega
 refine⟨rfl,_,⟨⟨xs++[GX c,kv,pv,fv,vv],cs++[c],g1,ε,Jrn.snoc rfl (ho.move λk hm _=>⟨q0 k hm.1,hm⟩) (hx.move λk hm _=>⟨(q4 k hm.1).2,hM k hm.1,hm.2⟩),?_⟩,?_,?_,ht.move λk q5=>g4.block k (q6 k q5) ε,hn,ε,ε,⟨Ã h.up.1 (Ã hk.size g4.size),q9⟩⟩,⟨g4.os.trans hk.os,g4.tape.trans hk.tape,g4.output.trans hk.output,Ã hk.size g4.size,q4⟩⟩
 .rw[List.reverse_append];exact Und.shift (T:=T1) (M:=M') (wk:=w4) (cs:=c::cs.reverse) ⟨T,M,w,hu.up (Ã hk.size g4.size),hB q4 q0,hM,λk q5=>by have:=h.tr.lt k (h.tr.maps.1 k q5);have:=hk.size;have:=g4.size;omega,hin⟩ hT λk hm=>⟨hm,rfl⟩
 .simpa[BY]using q8
 grind [pM,BY,er]
end
theorem Ns{c:pN}{k:By}:∀{es:List (Lit×pN)},AQ es->(A3 k,c)∈es->es.find? (λp=>p.1.sameKey (.string k))=some (.string k,c)
 |[],_,h=>by cases h
 |y::r,⟨h1,h2⟩,h=>by
  obtain⟨h3,h4⟩:=ô.1 h1;rcases Ë.1 h with e|h
  .subst e;exact Jk (p:=λp=>p.1.sameKey (.string k)) (î (show CL (A3 k,c).1 from trivial))
  .have hne:y.1 ≠ .string k:=λe=>by
    have hb:=h3 _ h;rw[e]at hb;have h9:bytesBefore k k=true:=hb;rw[ĝ]at h9;cases h9
   rw[KF (p:=λp=>p.1.sameKey (.string k)) (by show ¬(y.1.sameKey (.string k)=true);rw[sameKey_ne hne];decide)];exact Ns ⟨h4,λp hp=>h2 p (by simp[hp])⟩ h
theorem cA{f b g:Nat}{w:AS}{u:AT}(h:Ad (f+1) w u (pS b g (.slice al []))):∃sl ps,VB w b 5 n0 [] sl (.map none)/\w.ownsRow 0 80 1 sl ps.length ps/\Al (Ad f w) ps al:=by
 obtain⟨b2,g2,x2,e,hu,h⟩:=h;unfold pS at e;injection e with e;injection e with e1 e;injection e with e2 e;injection e with e3 _;injection e1 with e1;injection e1 with _ e1;injection e2 with e2;injection e2 with _ e2;obtain rfl:b=b2:=ζ;rcases h with⟨j,_,_,rfl,_⟩|⟨n,_,rfl,_⟩|⟨s,_,rfl,_⟩|⟨q0,sl,ps,rfl,hvb,ho,hs,ha⟩|⟨es,n,D,rfl,hvb,ho,hp⟩
 .cases e3
 .cases e3
 .cases e3
 .grind
 .cases e3
theorem Ji{f i:Nat}{w:AS}{u pth:AT}{n c:pN}{key:By}(h:Ad (f+1) w u n)(hf:Bv n i key c)(hk:key.length<=1048576):
  A1 AI 159 #[plV pth (qO n) key i] w λe w'=>(∃y,e=.returned y/\Ad f w y c)/\Bl w w':=by
 rcases hf with⟨b,g,al,rfl,h1⟩|⟨b,g,es,rfl,h1,h2⟩
 .obtain⟨sl,ps,hvb,ho,ha⟩:=cA h;obtain⟨hi,e⟩:=ß.1 h1;have q0:i<ps.length:=by rw[ha.length];exact hi
  refine(gV (pth:=pth) (key:=key) hvb ho q0).mono ?_;rintro x w' ⟨rfl,hb⟩;exact⟨⟨_,rfl,e▸ha.get i q0 hi⟩,hb⟩
 .obtain⟨_,D,hvb,ho,hp⟩:=Fh h;have hfd:=Ns h2 h1;have hh:B1 (.map D) (.string key)=true:=by
   rw[Pt.has _ hp];exact è.2 ε
  obtain⟨j,k2,c2,x,_,_,e3,e4,e5⟩:=Pt.first (.string key) hp hh;rw[hfd]at e3;obtain rfl:c=c2:=ε;refine(S0 (pth:=pth) (i:=i) hk hvb ho (e4 _)).mono ?_;grind
theorem Z4{f:Nat}{w:AS}{u:AT}{n:pN}(h:Ad (f+1) w u n):∀k∈pM (f+1) n,k∈sQ n\/∃d∈AM n,k∈pM f d:=by
 obtain⟨b,g,x,rfl,hv,h⟩:=h;rcases h with⟨j,_,_,rfl,h⟩|⟨n,_,rfl,h,q0⟩|⟨s,_,rfl,h⟩|⟨al,sl,ps,rfl,_⟩|⟨es,n,D,rfl,_⟩
 .intro k hk;exact Å hk
 .intro k hk;exact Å hk
 .intro k hk;exact Å hk
 .grind [AU,Gg,Cs]
 .intro k hk;rw[BC]at hk;rw[Gf,Cg];grind
theorem Bv.apart{f i:Nat}{m c:pN}{key:By}(hf:Bv m i key c)(hn:(pM (f+1) m).Nodup):(∀d∈AM (Cr i key m),∀k∈pM f d,k∉pM f c)/\(∀k∈pM f c,k∈pM (f+1) m)/\(pM f c).Nodup/\c∈AM m:=by
 rcases hf with⟨b,g,al,rfl,h⟩|⟨b,g,es,rfl,h,hs⟩
 .obtain⟨p1,_⟩:=FU hn;have q:=FP (pM f) (Hg h);rw[ã]at q;obtain⟨n1,_,n3⟩:=č.1 (q.nodup_iff.1 p1);refine⟨λd hd k hk q0=>n3 k q0 k (û.2 ⟨d,hd,hk⟩) rfl,λk hk=>?_,n1,?_⟩
  .rw[AU];exact Ø _ (ý _ (q.mem_iff.2 (ħ _ hk)))
  .rw[Cs];grind
 .obtain⟨p1,_⟩:=J0 hn;have q:=(Wf hs h).flatMap_right (λp=>pM f p.2);rw[ã]at q;obtain⟨n1,_,n3⟩:=č.1 (q.nodup_iff.1 p1);refine⟨λd hd k hk q0=>?_,λk hk=>?_,n1,?_⟩
  .obtain⟨p,hp,rfl⟩:=Ò.1 (show d∈(qY (.string key) es).map B3 from hd);grind
  .rw[BC];grind
  .rw[Cg];grind
theorem Bv.kids_set{i:Nat}{m c x:pN}{key:By}(hf:Bv m i key c):∀d∈AM (Cm i key x m),d=x\/d∈AM (Cr i key m):=by
 intro d hd;rcases hf with⟨b,g,al,rfl,h⟩|⟨b,g,es,rfl,h,hs⟩
 .have q0:d∈al.set i x:=hd;have:=(NR x h).mem_iff.1 q0;exact(Ë.1 this).imp id id
 .obtain⟨p,hp,rfl⟩:=Ò.1 (show d∈(qI (.string key) x es).map B3 from hd);rcases Ë.1 ((DQ (.string key) x es).mem_iff.1 hp)with rfl|hp
  .grind
  .exact À (show p.2∈(qY (.string key) es).map B3 from ε)
theorem NM{f:Nat}{p:List Nat}{w w':AS}{u:AT}{T m n2 c:pN}(hs:qE p T=some m)(hN:(pM (f+1+p.length) T).Nodup)(hm:Ad (f+1) w u m)(h2:Ad (f+1) w' u n2)(hc:c∈AM m)(q4:∀k∈pM f c,k∈pM (f+1) m)(ho:∀k∈sQ n2,k∈sQ m\/w.1.size<=k)(hk:∀d∈AM n2,∀k∈pM f d,k∉pM f c):∀k∈pM (f+1+p.length) (qT p n2 T),k∉pM f c:=by
 intro k q5 q0;obtain⟨rest,q1,q2⟩:=Ir (f:=f+1) hs;rcases ó.1 ((q2 n2).mem_iff.1 q5)with h|h
 .grind
 .rcases Z4 h2 k h with h|⟨d,hd,h⟩
  .rcases ho k h with h|h
   .exact MT hm ε hc k h q0
   .have:=hm.lt k (q4 k q0);omega
  grind
def DC(L:Nat)(D:Nat)(rv iv:AT)(ch:Bool)(Tb:pN)(Mb:Nat->Prop)(wb:AS)(T1:pN)(M:Nat->Prop)(js:List pW)(w w':AS):Prop:=
 ∃jn' T' M',er L T'=er L T1/\B7 L w' D rv jn' iv ch Tb Mb wb T' M' js/\JEx M M' w w'
theorem Ad.kidAt{f:Nat}{w:AS}{u:AT}{n c:pN}(h:Ad (f+1) w u n)(hc:c∈AM n):∃y,Ad f w y c:=by
 obtain⟨j,hj,e⟩:=Ĺ.1 hc;exact Ad.at (f:=f) (p:=[j]) h (by rw[qE,Ô hj,e];rfl)
section
variable{f:Nat}{p:List Nat}{w:AS}{D i:Nat}{rv jn iv:AT}{ch:Bool}{Tb T m c x:pN}{Mb M:Nat->Prop}{wb:AS}{js:List pW}{key:By}{pa px py:Option Addr}{pl pc:Nat}{path:List By}
theorem Mn(hJ:B7 (f+1+p.length) w D rv jn iv ch Tb Mb wb T M js)(hs:qE p T=some m)(hf:JA m i key)(hr:Dd m key)(hl:js.length<=1000000000)(hp:Bd w (GA (f+1+p.length) Tb wb M) (.slice pa pl pc) path)(hc:Ad f w (.pointer px) c)(qd:(pM f c).Nodup)(q0:∀k∈pM f c,¬M k/\k∉pM (f+1+p.length) T/\k≠D/\jn.ownBlock≠some k/\wb.1.size<=k):
  A1 AI 205 #[PtB D,plV (.slice pa pl pc) (qO m) key i,.pointer px] w λe w'=>e=.returned (.tuple #[])/\
   DC (f+1+p.length) D rv iv ch Tb Mb wb (qT p (Ct i key c m) T) M (js++[(1,path,.nil)]) w w':=by
 obtain⟨xs,cs,g1,g2,g3,g4⟩:=hJ.ex;obtain⟨u,hu⟩:=Ad.at (f:=f+1) hJ.tr hs;have q9:=g1.lt;have q5:=hJ.jlt;have q6:=hJ.tr.lt;have hcl:=hc.lt;have hb:Bl w (plW w pa pl pc (qO m) key i):=(Â _ _).alloc (Á _) _;have qg:(plW w pa pl pc (qO m) key i).1.size=w.1.size+1:=φ;have q4:Be (plW w pa pl pc (qO m) key i) w.1.size (.slice pa pl pc) (qO m) key i:=Ê w _;have q7:∀k∈sQ m,k∈pM (f+1+p.length) T:=λk hk=>DO hs k (JZ hu k hk);have hZ:∀k∈pM f c,k<(plW w pa pl pc (qO m) key i).1.size/\k∉pM (f+1+p.length) T:=λk hk=>⟨by have:=hcl k hk;omega,(q0 k hk).2.1⟩
 refine(Rx (D:=D) (rv:=rv) (iv:=iv) (ch:=ch) (xs:=xs) (Q:=λw2=>∃n2,(er (f+1) n2=er (f+1) (Ct i key c m)/\AM n2=AM (Ct i key c m)/\∀k∈sQ n2,k∈sQ m\/(plW w pa pl pc (qO m) key i).1.size<=k)/\El f (plW w pa pl pc (qO m) key i) w2 u m n2 (λk=>k∈pM f c)) hl hJ.jD
  (KU (hu.bel hb) (CE (f:=f+1) hs hJ.nd) (hf.at (c:=c) hr).1 (hc.bel hb) qd (λk hk hm=>(q0 k hk).2.1 (DO hs k hm))) ?_).mono ?_
 .rintro w2⟨n2,_,hE⟩;have hold:∀k,k<w.1.size+1->k∉pM (f+1+p.length) T->w2.1[k]?=(plW w pa pl pc (qO m) key i).1[k]?:=λk hk hn=>hE.kept.block k ζ (λh=>hn (q7 k h));refine⟨(hold _ ζ (λh=>by have:=q6 _ h;omega)).trans q4,g1.kept ((hold D ζ hJ.dD.1).trans (hb.block D q9)),Bz g2 λg hg=>(hold g (by have:=q5 g hg;omega) (hJ.jM g hg).2).trans (hb.block g (q5 g hg))⟩
 .rintro e w4⟨w2,⟨n2,⟨e2,_,_⟩,hE⟩,hL⟩;obtain⟨t1,t2,t3,t4⟩:=Mt (hJ.tr.bel hb) hs hJ.nd (hu.bel hb) hE hZ;have hsz:=t4.size;have q8:Aw (λk=>k∈pM (f+1+p.length) T) w w2:=(Aw.of_below hb).trans (F':=λk=>k∈pM (f+1+p.length) T) t4 λk _ h=>h;have qf:Be w2 w.1.size (.slice pa pl pc) (qO m) key i:=(t4.block _ ζ (λh=>by have:=q6 _ h;omega)).trans q4;obtain⟨rfl,jn',qb,hX⟩:=hJ.lay (T1:=qT p (Ct i key c m) T) (M':=λk=>M k\/k=w.1.size) (o:=(1,path,.nil)) g3 g4 q8 t1 t2 (λhm=>by
    rcases t3 D hm with h|h|h
    .exact hJ.dD.1 h
    .exact (q0 D h).2.2.1 rfl
    .omega) (λg hg hm=>by
    rcases t3 g hm with h|h|h
    .exact (hJ.jM g hg).2 h
    .exact (q0 g h).2.2.2.1 hg
    .have:=q5 g hg;omega) (λk hk=>Å hk) (λk hk=>by
    rcases hk with hk|rfl
    .have h1:=hJ.low k hk;refine⟨ζ,λhm=>?_,λe=>hJ.dD.2 (e▸hk),λe=>(hJ.jM k e).1 hk⟩;rcases t3 k hm with h|h|h
     .exact h1.2 h
     .exact (q0 k h).1 hk
     .omega
    .refine⟨ζ,λhm=>?_,ζ,λe=>by have:=q5 _ e;omega⟩;rcases t3 _ hm with h|h|h
     .have:=q6 _ h;omega
     .have:=hcl _ h;omega
     .omega) hL ⟨rfl,show(1:Nat)<3 from η,hp.move λk hk qe=>⟨q8.block k qe (hJ.low k hk.1).2,Å hk.1,hk.2⟩,rfl,Å ⟨rfl,rfl⟩⟩ (by rw[Cv p (f+1) n2 hs,e2,Cv p (f+1) _ hs]) (λh1 h2=>RH hJ.tr hs hf hr ((h2 _ (À rfl)).trans qf) (À rfl) h1) UQ (λk hk=>by
    rcases t3 k hk with h|h|h
    .exact hJ.up.2 k h
    .exact Å (q0 k h).2.2.2.2
    .exact Å (by have:=hJ.up.1;omega))
  exact⟨rfl,jn',_,_,by rw[Cv p (f+1) n2 hs,e2,Cv p (f+1) _ hs],qb,hX⟩
theorem TT(hJ:B7 (f+1+p.length) w D rv jn iv ch Tb Mb wb T M js)(hs:qE p T=some m)(hf:Bv m i key c)(hr:Dd m key)(hl:js.length<=1000000000)(hp:Bd w (GA (f+1+p.length) Tb wb M) (.slice pa pl pc) path)(qj:f<=top):
  A1 AI 199 #[PtB D,plV (.slice pa pl pc) (qO m) key i] w λe w'=>e=.returned (.tuple #[])/\
   DC (f+1+p.length) D rv iv ch Tb Mb wb (qT p (Cr i key m) T) M (js++[(0,path,pT f c)]) w w'/\∀y,Ad f w y c->Ad f w' y c:=by
 obtain⟨xs,cs,g1,g2,g3,g4⟩:=hJ.ex;obtain⟨u,hu⟩:=Ad.at (f:=f+1) hJ.tr hs;obtain⟨a1,a2,a3,a4⟩:=hf.apart (CE (f:=f+1) hs hJ.nd);obtain⟨yv,hc⟩:=hu.kidAt a4;obtain⟨yb,rfl,_⟩:=hc.ptr;have qe:=g1.lt;have q5:=hJ.jlt;have q0:=hJ.tr.lt;have q4:∀k∈pM f c,k∈pM (f+1+p.length) T:=λk hk=>DO hs k (a2 k hk);have hb:Bl w (plW w pa pl pc (qO m) key i):=(Â _ _).alloc (Á _) _;have qh:(plW w pa pl pc (qO m) key i).1.size=w.1.size+1:=φ;have q6:Be (plW w pa pl pc (qO m) key i) w.1.size (.slice pa pl pc) (qO m) key i:=Ê w _;have q9:∀k∈sQ m,k∈pM (f+1+p.length) T:=λk hk=>DO hs k (JZ hu k hk);have hV:∀w2,A5 (w.1.size+1) (plW w pa pl pc (qO m) key i) w2->Bl w (xW w2 (some ⟨yb,0,none⟩)):=λw2 h2=>by
  have h3:Bl w w2:=⟨h2.os.trans hb.os,h2.tape.trans hb.tape,h2.output.trans hb.output,by have:=h2.size;omega,λk hk=>(h2.block k ζ).trans (hb.block k hk)⟩
  exact h3.alloc (by have:=h2.size;omega) _
 have qb:∀w2,(xW w2 (some ⟨yb,0,none⟩)).1.size=w2.1.size+1:=λw2=>φ;refine(Rt (D:=D) (rv:=rv) (iv:=iv) (ch:=ch) (xs:=xs) (y:=some ⟨yb,0,none⟩) (Q:=λw2 w3=>∃n2,(er (f+1) n2=er (f+1) (Cr i key m)/\AM n2=AM (Cr i key m)/\∀k∈sQ n2,k∈sQ m\/(xW w2 (some ⟨yb,0,none⟩)).1.size<=k)/\El f (xW w2 (some ⟨yb,0,none⟩)) w3 u m n2 (λ_=>False)) hl hJ.jD
  ((Ji (hu.bel hb) hf hr.2).mono ?_) (λw2 hb2=>KO (hu.bel (hV w2 hb2)) (CE (f:=f+1) hs hJ.nd) (hf.at hr).1) ?_).mono ?_
 .rintro e w' ⟨⟨y,rfl,hy⟩,hb2⟩;obtain rfl:=hy.uniq hc;exact⟨rfl,qh▸hb2⟩
 .rintro w2 w3 hb2⟨n2,_,hE⟩;have hs2:=hb2.size;have q7:=qb w2;have hold:∀k,k<w2.1.size+1->k∉pM (f+1+p.length) T->w3.1[k]?=(xW w2 (some ⟨yb,0,none⟩)).1[k]?:=λk hk hn=>hE.kept.block k ζ (λh=>hn (q9 k h));refine⟨((hold _ ζ (λh=>by have:=q0 _ h;omega)).trans (Ä w2 _ _ ζ)).trans ((hb2.block _ ζ).trans q6),(hold _ ζ (λh=>by have:=q0 _ h;omega)).trans (Ê w2 _),g1.kept ((hold D ζ hJ.dD.1).trans ((hV w2 hb2).block D qe)),Bz g2 λg hg=>(hold g (by have:=q5 g hg;omega) (hJ.jM g hg).2).trans ((hV w2 hb2).block g (q5 g hg))⟩
 .rintro e w4⟨w2,w3,hb2,⟨n2,⟨e2,e3,e4⟩,hE⟩,hL⟩;have hs2:=hb2.size;have q7:=qb w2;obtain⟨t1,t2,t3,t4⟩:=Mt (hJ.tr.bel (hV w2 hb2)) hs hJ.nd (hu.bel (hV w2 hb2)) hE (λk hk=>hk.elim);have hsz:=t4.size;have qd:Aw (λk=>k∈pM (f+1+p.length) T) w w3:=(Aw.of_below (hV w2 hb2)).trans (F':=λk=>k∈pM (f+1+p.length) T) t4 λk _ h=>h;have qn:Be w3 w.1.size (.slice pa pl pc) (qO m) key i:=((t4.block _ ζ (λh=>by have:=q0 _ h;omega)).trans (Ä w2 _ _ ζ)).trans ((hb2.block _ ζ).trans q6);have qo:Ib w3 w2.1.size (some ⟨yb,0,none⟩):=(t4.block _ ζ (λh=>by have:=q0 _ h;omega)).trans (Ê w2 _);have qg:∀k∈pM (f+1+p.length) (qT p n2 T),k∉pM f c:=NM hs hJ.nd (hu.bel (hV w2 hb2)) hE.tr a4 a2 e4 (λd hd k hk=>a1 d (e3▸hd) k hk);have q8:Ad f w3 (PtB yb) c:=(hc.bel (hV w2 hb2)).move λk hk=>hE.kept.block k (by have:=q0 k (q4 k hk);omega) (λho=>MT hu (CE (f:=f+1) hs hJ.nd) a4 k ho hk);obtain⟨r1,r2,r3⟩:=q8.up qj;obtain⟨_,_,_,_,_,_,qk⟩:=id hL;have qi:Ad f w4 (PtB yb) c:=q8.move λk hk=>qk.block k (by have:=q0 k (q4 k hk);omega) (λh=>h.elim (λe=>hJ.dD.1 (e▸q4 k hk)) λe=>(hJ.jM k e).2 (q4 k hk));obtain⟨rfl,jn',qf,hX⟩:=hJ.lay (T1:=qT p (Cr i key m) T) (M':=λk=>M k\/k=w.1.size\/k=w2.1.size\/k∈pM f c) (o:=(0,path,pT f c)) g3 g4 qd t1 t2 (λhm=>by
    rcases t3 D hm with h|h|h
    .exact hJ.dD.1 h
    .exact h
    .omega) (λg hg hm=>by
    rcases t3 g hm with h|h|h
    .exact (hJ.jM g hg).2 h
    .exact h.elim
    .have:=q5 g hg;omega) (λk hk=>Å hk) (λk hk=>by
    rcases hk with hk|rfl|rfl|hk
    .have h1:=hJ.low k hk;refine⟨ζ,λhm=>?_,λe=>hJ.dD.2 (e▸hk),λe=>(hJ.jM k e).1 hk⟩;rcases t3 k hm with h|h|h
     .exact h1.2 h
     .exact h
     .omega
    .refine⟨ζ,λhm=>?_,ζ,λe=>by have:=q5 _ e;omega⟩;rcases t3 _ hm with h|h|h
     .have:=q0 _ h;omega
     .exact h.elim
     .omega
    .refine⟨ζ,λhm=>?_,ζ,λe=>by have:=q5 _ e;omega⟩;rcases t3 _ hm with h|h|h
     .have:=q0 _ h;omega
     .exact h.elim
     .omega
    .refine⟨by have:=q0 k (q4 k hk);omega,λhm=>qg k hm hk,λe=>hJ.dD.1 (e▸q4 k hk),λe=>(hJ.jM k e).2 (q4 k hk)⟩) hL ⟨rfl,show(0:Nat)<3 from η,hp.move λk hk qm=>⟨qd.block k qm (hJ.low k hk.1).2,Å hk.1,hk.2⟩,rfl,À ⟨show(0:Nat)≠1 from η,r3▸r1.rep λk hk=>⟨À (À (À (r2▸hk))),hJ.up.2 k (q4 k (r2▸hk))⟩⟩⟩ (by rw[Cv p (f+1) n2 hs,e2,Cv p (f+1) _ hs])
    (λh1 h2=>RG hJ.tr hs hf hr ((h2 _ (À (Å rfl))).trans qn) (À (Å rfl)) ((h2 _ (À (À (Å rfl)))).trans qo) (À (À (Å rfl))) (q8.move λk hk=>h2 k (À (À (À hk)))) a3 (λk hk=>⟨À (À (À hk)),λhm=>(hJ.low k hm).2 (q4 k hk)⟩) h1) UP (λk hk=>by
    rcases t3 k hk with h|h|h
    .exact hJ.up.2 k h
    .exact h.elim
    .exact Å (by have:=hJ.up.1;omega))
  refine⟨rfl,⟨jn',_,_,by rw[Cv p (f+1) n2 hs,e2,Cv p (f+1) _ hs],qf,hX⟩,λy hy=>?_⟩;obtain rfl:=hy.uniq hc;exact qi
theorem Pd(hJ:B7 (f+1+p.length) w D rv jn iv ch Tb Mb wb T M js)(hs:qE p T=some m)(hf:Bv m i key c)(hr:Dd m key)(hl:js.length<=1000000000)(hp:Bd w (GA (f+1+p.length) Tb wb M) (.slice pa pl pc) path)(qg:f<=top)(hx:Ad f w (.pointer px) x)(qm:(pM f x).Nodup)(q9:∀k∈pM f x,¬M k/\k∉pM (f+1+p.length) T/\k≠D/\jn.ownBlock≠some k/\wb.1.size<=k):
  A1 AI 200 #[PtB D,plV (.slice pa pl pc) (qO m) key i,.pointer px] w λe w'=>e=.returned (.tuple #[])/\
   DC (f+1+p.length) D rv iv ch Tb Mb wb (qT p (Cm i key x m) T) M (js++[(2,path,pT f c)]) w w':=by
 obtain⟨xs,cs,g1,g2,g3,g4⟩:=hJ.ex;obtain⟨u,hu⟩:=Ad.at (f:=f+1) hJ.tr hs;obtain⟨a1,a2,a3,a4⟩:=hf.apart (CE (f:=f+1) hs hJ.nd);obtain⟨yv,hc⟩:=hu.kidAt a4;obtain⟨yb,rfl,_⟩:=hc.ptr;have qd:=g1.lt;have qh:=hJ.jlt;have qn:=hJ.tr.lt;have q4:∀k∈pM f c,k∈pM (f+1+p.length) T:=λk hk=>DO hs k (a2 k hk);have hb:Bl w (plW w pa pl pc (qO m) key i):=(Â _ _).alloc (Á _) _;have qo:(plW w pa pl pc (qO m) key i).1.size=w.1.size+1:=φ;have q0:Be (plW w pa pl pc (qO m) key i) w.1.size (.slice pa pl pc) (qO m) key i:=Ê w _;have q6:∀k∈sQ m,k∈pM (f+1+p.length) T:=λk hk=>DO hs k (JZ hu k hk);have hV:∀w2,A5 (w.1.size+1) (plW w pa pl pc (qO m) key i) w2->Bl w (xW w2 (some ⟨yb,0,none⟩)):=λw2 h2=>by
  have h3:Bl w w2:=⟨h2.os.trans hb.os,h2.tape.trans hb.tape,h2.output.trans hb.output,by have:=h2.size;omega,λk hk=>(h2.block k ζ).trans (hb.block k hk)⟩
  exact h3.alloc (by have:=h2.size;omega) _
 have q7:∀w2,(xW w2 (some ⟨yb,0,none⟩)).1.size=w2.1.size+1:=λw2=>φ;refine(XK (D:=D) (rv:=rv) (iv:=iv) (ch:=ch) (xs:=xs) (y:=some ⟨yb,0,none⟩) (Q:=λw2 w3=>∃n2,(er (f+1) n2=er (f+1) (Cm i key x m)/\AM n2=AM (Cm i key x m)/\∀k∈sQ n2,k∈sQ m\/(xW w2 (some ⟨yb,0,none⟩)).1.size<=k)/\El f (xW w2 (some ⟨yb,0,none⟩)) w3 u m n2 (λk=>k∈pM f x)) hl hJ.jD
  ((Ji (hu.bel hb) hf hr.2).mono ?_) (λw2 hb2=>Pj (hu.bel (hV w2 hb2)) (CE (f:=f+1) hs hJ.nd) (hf.at hr).1 (hx.bel (hV w2 hb2)) qm (λk hk hm=>(q9 k hk).2.1 (DO hs k hm))) ?_).mono ?_
 .rintro e w' ⟨⟨y,rfl,hy⟩,hb2⟩;obtain rfl:=hy.uniq hc;grind
 .rintro w2 w3 hb2⟨n2,_,hE⟩;have hs2:=hb2.size;have q5:=q7 w2;have hold:∀k,k<w2.1.size+1->k∉pM (f+1+p.length) T->w3.1[k]?=(xW w2 (some ⟨yb,0,none⟩)).1[k]?:=λk hk hn=>hE.kept.block k ζ (λh=>hn (q6 k h));refine⟨((hold _ ζ ε).trans (Ä w2 _ _ ζ)).trans ((hb2.block _ ζ).trans q0),(hold _ ζ ε).trans (Ê w2 _),g1.kept ((hold D ζ hJ.dD.1).trans ((hV w2 hb2).block D qd)),Bz g2 λg hg=>(hold g ε (hJ.jM g hg).2).trans ((hV w2 hb2).block g (qh g hg))⟩
 .rintro e w4⟨w2,w3,hb2,⟨n2,⟨e2,e3,e4⟩,hE⟩,hL⟩;have hs2:=hb2.size;have q5:=q7 w2;obtain⟨t1,t2,t3,t4⟩:=Mt (hJ.tr.bel (hV w2 hb2)) hs hJ.nd (hu.bel (hV w2 hb2)) hE (λk hk=>⟨by have:=hx.lt k hk;omega,(q9 k hk).2.1⟩);have hsz:=t4.size;have qb:Aw (λk=>k∈pM (f+1+p.length) T) w w3:=(Aw.of_below (hV w2 hb2)).trans (F':=λk=>k∈pM (f+1+p.length) T) t4 λk _ h=>h;have qj:Be w3 w.1.size (.slice pa pl pc) (qO m) key i:=((t4.block _ ζ ε).trans (Ä w2 _ _ ζ)).trans ((hb2.block _ ζ).trans q0);have qk:Ib w3 w2.1.size (some ⟨yb,0,none⟩):=(t4.block _ ζ ε).trans (Ê w2 _);have qf:∀k∈pM (f+1+p.length) (qT p n2 T),k∉pM f c:=NM hs hJ.nd (hu.bel (hV w2 hb2)) hE.tr a4 a2 e4 (λd hd k hk=>by
   rw[e3]at hd;rcases hf.kids_set d hd with rfl|hd
   .grind
   grind)
  have q8:Ad f w3 (PtB yb) c:=(hc.bel (hV w2 hb2)).move λk hk=>hE.kept.block k ε (λho=>MT hu (CE (f:=f+1) hs hJ.nd) a4 k ho hk);obtain⟨r1,r2,r3⟩:=q8.up qg;obtain⟨rfl,jn',qe,hX⟩:=hJ.lay (T1:=qT p (Cm i key x m) T) (M':=λk=>M k\/k=w.1.size\/k=w2.1.size\/k∈pM f c) (o:=(2,path,pT f c)) g3 g4 qb t1 t2 (λhm=>by
    rcases t3 D hm with h|h|h
    .exact hJ.dD.1 h
    .grind
    .omega) (λg hg hm=>by
    rcases t3 g hm with h|h|h
    .exact (hJ.jM g hg).2 h
    .grind
    grind) (λk hk=>Å hk) (λk hk=>by
    rcases hk with hk|rfl|rfl|hk
    .have h1:=hJ.low k hk;refine⟨ζ,λhm=>?_,λe=>hJ.dD.2 (e▸hk),λe=>(hJ.jM k e).1 hk⟩;grind
    .refine⟨ζ,λhm=>?_,ζ,ε⟩;rcases t3 _ hm with h|h|h
     .grind
     .exact (by have:=hx.lt _ h;omega)
     .omega
    .refine⟨ζ,λhm=>?_,ζ,ε⟩;rcases t3 _ hm with h|h|h
     .grind
     .exact (by have:=hx.lt _ h;omega)
     .omega
    .refine⟨ε,λhm=>qf k hm hk,λe=>hJ.dD.1 (e▸q4 k hk),λe=>(hJ.jM k e).2 (q4 k hk)⟩) hL ⟨rfl,ζ,hp.move λk hk qi=>⟨qb.block k qi (hJ.low k hk.1).2,Å hk.1,hk.2⟩,rfl,À ⟨ζ,r3▸r1.rep λk hk=>⟨ε,hJ.up.2 k (q4 k (r2▸hk))⟩⟩⟩ (by rw[Cv p (f+1) n2 hs,e2,Cv p (f+1) _ hs])
    (λh1 h2=>XW hJ.tr hs hf hr ((h2 _ (À (Å rfl))).trans qj) (À (Å rfl)) ((h2 _ ζ).trans qk) ζ (q8.move ε) a3 (λk hk=>⟨ε,λhm=>(hJ.low k hm).2 (q4 k hk)⟩) h1) aO (λk hk=>by
    rcases t3 k hk with h|h|h
    .exact hJ.up.2 k h
    .grind
    .exact Å (by have:=hJ.up.1;omega))
  exact⟨rfl,jn',_,_,by rw[Cv p (f+1) n2 hs,e2,Cv p (f+1) _ hs],qe,hX⟩
end
section
variable{w:AS}{D b i:Nat}{key:By}{pa x:Option Addr}{pl pc:Nat}
theorem XL{y:Addr}{Q:AS->Prop}(hG:A1 AI 159 #[plV (.slice pa pl pc) b key i] (plW w pa pl pc b key i) λe w'=>e=.returned (.pointer (some y))/\A5 (w.1.size+1) (plW w pa pl pc b key i) w')(hC:∀w2,A5 (w.1.size+1) (plW w pa pl pc b key i) w2->A1 AI 200 #[PtB D,plV (.slice pa pl pc) b key i,.pointer x] w2 λe w'=>e=.returned (.tuple #[])/\Q w'):
  A1 AI 160 #[PtB D,plV (.slice pa pl pc) b key i,.pointer x] w λe w'=>e=.returned (.tuple #[])/\Q w':=by
 have HG:=Ab hG;have HC:=Ab hC;have q4:=Ê w (.cells #[.slice pa pl pc,PtB b,.string ⟨key.toArray⟩,InB i] 185);have HP:=Ab (show Be (plW w pa pl pc b key i) w.1.size (.slice pa pl pc) b key i from q4);clear hG hC q4;go_enter func160,ntmps160;go_wp2_with fail;refine HG.u.mono ?_;rintro e w2⟨rfl,hb⟩;have q0:Be w2 w.1.size (.slice pa pl pc) b key i:=(hb.block _ ζ).trans HP.u;have e0:=q0.c0;have e1:=q0.c1;have e2:=q0.c2;have e3:=q0.c3;have HB:=Ab hb;clear hb q0;go_wp2_with fail;refine(HC.u w2 HB.u).mono ?_;rintro e w3⟨rfl,hq⟩;go_wp2;exact Ì (v:=.tuple #[]) (by simp[A4,results160,go_sem]) rfl ⟨rfl,hq⟩
theorem Ru{Q:AS->Prop}(hG:A1 AI 159 #[plV (.slice pa pl pc) b key i] (plW w pa pl pc b key i) λe w'=>e=.returned (.pointer none)/\A5 (w.1.size+1) (plW w pa pl pc b key i) w')(hC:∀w2,A5 (w.1.size+1) (plW w pa pl pc b key i) w2->A1 AI 205 #[PtB D,plV (.slice pa pl pc) b key i,.pointer x] w2 λe w'=>e=.returned (.tuple #[])/\Q w'):
  A1 AI 160 #[PtB D,plV (.slice pa pl pc) b key i,.pointer x] w λe w'=>e=.returned (.tuple #[])/\Q w':=by
 have HG:=Ab hG;have HC:=Ab hC;have q4:=Ê w (.cells #[.slice pa pl pc,PtB b,.string ⟨key.toArray⟩,InB i] 185);have HP:=Ab (show Be (plW w pa pl pc b key i) w.1.size (.slice pa pl pc) b key i from q4);clear hG hC q4;go_enter func160,ntmps160;go_wp2_with fail;refine HG.u.mono ?_;rintro e w2⟨rfl,hb⟩;have q0:Be w2 w.1.size (.slice pa pl pc) b key i:=(hb.block _ ζ).trans HP.u;have e0:=q0.c0;have e1:=q0.c1;have e2:=q0.c2;have e3:=q0.c3;have HB:=Ab hb;clear hb q0;go_wp2_with fail;refine(HC.u w2 HB.u).mono ?_;rintro e w3⟨rfl,hq⟩;go_wp2;exact Ĝ (þ rfl _ _ _) rfl ⟨rfl,hq⟩
end
theorem Z0{f b g i:Nat}{w:AS}{u pth:AT}{es:List (Lit×pN)}{key:By}(h:Ad (f+1) w u (pS b g (.map es)))(hf:∀p∈es,p.1≠A3 key)(hk:key.length<=1048576):
  CB 159 #[plV pth b key i] w (.pointer none):=by
 obtain⟨_,D,hvb,ho,hp⟩:=Fh h;have hh:B1 (.map D) (.string key)=false:=by
  rw[Pt.has _ hp];refine Bool.eq_false_iff.2 λht=>?_;obtain⟨p,h1,h2⟩:=è.1 (show(es.any λp=>p.1.sameKey (.string key))=true from ht);rw[sameKey_ne (hf p h1)]at h2;cases h2
 have hx:(C2 D).atKey (.string key) (.held (.pointer none))=.held (.pointer none):=by
  have h3:D.find? (λp=>p.1.sameKey (.string key))=none:=by
   rw[List.find?_eq_none];intro p hp ht;have h4:(D.any λp=>p.1.sameKey (.string key))=true:=ε;have h5:(D.any λp=>p.1.sameKey (.string key))=false:=hh;grind
  rw[Co,h3]
 exact S0 (pth:=pth) (i:=i) hk hvb ho hx
theorem QD{w:AS}{o:Obj}(h:A5 (w.1.size+1) (w.alloc o) w2):Bl w w2:=by
 have hb:Bl w (w.alloc o):=(Â _ _).alloc (Á _) _;exact⟨h.os.trans hb.os,h.tape.trans hb.tape,h.output.trans hb.output,Ã hb.size h.size,λk hk=>(h.block k ζ).trans (hb.block k hk)⟩
theorem B7.bel{L:Nat}{w w':AS}{D:Nat}{rv jn iv:AT}{ch:Bool}{Tb T:pN}{Mb M:Nat->Prop}{wb:AS}{js:List pW}(h:B7 L w D rv jn iv ch Tb Mb wb T M js)(hb:Bl w w'):
  B7 L w' D rv jn iv ch Tb Mb wb T M js/\JEx M M w w':=by
 have h1:=h.grow hb (λ_=>False) (λ_ hx=>hx.elim);grind
section
variable{f:Nat}{p:List Nat}{w:AS}{D i:Nat}{rv jn iv:AT}{ch:Bool}{Tb T m c x:pN}{Mb M:Nat->Prop}{wb:AS}{js:List pW}{key:By}{pa px:Option Addr}{pl pc:Nat}{path:List By}
theorem fI(hJ:B7 (f+1+p.length) w D rv jn iv ch Tb Mb wb T M js)(hs:qE p T=some m)(hf:Bv m i key c)(hr:Dd m key)(hl:js.length<=1000000000)(hp:Bd w (GA (f+1+p.length) Tb wb M) (.slice pa pl pc) path)(q5:f<=top)(hx:Ad f w (.pointer px) x)(q8:(pM f x).Nodup)(q7:∀k∈pM f x,¬M k/\k∉pM (f+1+p.length) T/\k≠D/\jn.ownBlock≠some k/\wb.1.size<=k):
  A1 AI 160 #[PtB D,plV (.slice pa pl pc) (qO m) key i,.pointer px] w λe w'=>e=.returned (.tuple #[])/\
   DC (f+1+p.length) D rv iv ch Tb Mb wb (qT p (Cm i key x m) T) M (js++[(2,path,pT f c)]) w w':=by
 obtain⟨u,hu⟩:=Ad.at (f:=f+1) hJ.tr hs;obtain⟨a1,a2,a3,a4⟩:=hf.apart (CE (f:=f+1) hs hJ.nd);obtain⟨yv,hc⟩:=hu.kidAt a4;obtain⟨yb,rfl,_⟩:=hc.ptr;have hb:Bl w (plW w pa pl pc (qO m) key i):=(Â _ _).alloc (Á _) _;have q9:(plW w pa pl pc (qO m) key i).1.size=w.1.size+1:=φ;refine XL (y:=⟨yb,0,none⟩) ((Ji (hu.bel hb) hf hr.2).mono ?_) (λw2 hb2=>?_)
 .rintro e w' ⟨⟨y,rfl,hy⟩,hb2⟩;obtain rfl:=hy.uniq hc;grind
 .have h2:=QD hb2;obtain⟨q0,q4⟩:=hJ.bel h2;refine(Pd q0 hs hf hr hl (hp.move λk hk q6=>⟨h2.block k q6,hk⟩) q5 (hx.bel h2) q8 q7).mono λe w3 ⟨rfl,jn',T',M',q1,q2,q3⟩=>?_;exact⟨rfl,jn',T',M',q1,q2,q4.trans q3⟩
theorem YZ{b g:Nat}{es:List (Lit×pN)}(hJ:B7 (f+1+p.length) w D rv jn iv ch Tb Mb wb T M js)(hs:qE p T=some (pS b g (.map es)))(hf:∀p∈es,p.1≠A3 key)(hr:Dd (pS b g (.map es)) key)(hl:js.length<=1000000000)(hp:Bd w (GA (f+1+p.length) Tb wb M) (.slice pa pl pc) path)(hx:Ad f w (.pointer px) x)(q8:(pM f x).Nodup)(q7:∀k∈pM f x,¬M k/\k∉pM (f+1+p.length) T/\k≠D/\jn.ownBlock≠some k/\wb.1.size<=k):
  A1 AI 160 #[PtB D,plV (.slice pa pl pc) b key i,.pointer px] w λe w'=>e=.returned (.tuple #[])/\
   DC (f+1+p.length) D rv iv ch Tb Mb wb (qT p (Ct i key x (pS b g (.map es))) T) M (js++[(1,path,.nil)]) w w':=by
 obtain⟨u,hu⟩:=Ad.at (f:=f+1) hJ.tr hs;have hb:Bl w (plW w pa pl pc b key i):=(Â _ _).alloc (Á _) _;have q5:(plW w pa pl pc b key i).1.size=w.1.size+1:=φ;refine Ru ((Z0 (hu.bel hb) hf hr.2).mono ?_) (λw2 hb2=>?_)
 .rintro e w' ⟨rfl,hb2⟩;exact⟨rfl,q5▸hb2⟩
 .have h2:=QD hb2;obtain⟨q0,q4⟩:=hJ.bel h2;refine(Mn (m:=pS b g (.map es)) q0 hs (À ⟨b,g,es,rfl,hf⟩) hr hl (hp.move λk hk q6=>⟨h2.block k q6,hk⟩) (hx.bel h2) q8 q7).mono λe w3 ⟨rfl,jn',T',M',q1,q2,q3⟩=>?_;exact⟨rfl,jn',T',M',q1,q2,q4.trans q3⟩
end
theorem KX{w:AS}{D g o n cap:Nat}{t:By}{wp:Option Addr}{R:AS->Option Addr->Int->Prop}(hn:n+1<=cap)(q0:cap<=Bs)(hg:g<w.1.size)(ht:w.cell? ⟨g,o+n,none⟩=some (.string ⟨t.toArray⟩))(hW:∀w1,Bl w w1->CB 56 #[PtB D] w1 (.pointer wp))(hF:∀w1,Bl w w1->A1 AI 81 #[.slice (some ⟨g,o,none⟩) n cap,.pointer wp] w1 λe w'=>∃x c,e=.returned (.tuple #[.pointer x,InB c])/\Hid (R w' x c)/\Bl w1 w'):
  A1 AI 243 #[PtB D,.slice (some ⟨g,o,none⟩) (n+1) cap] w λe w'=>∃x c,e=.returned (.tuple #[.pointer x,.string ⟨t.toArray⟩,InB c])/\Hid (∃w2,R w2 x c/\w'.1=w2.1)/\Bl w w':=by
 have HW:=Ab hW;have HF:=Ab hF;have hB:=Â w.1.size w;unfold Bs at q0;have e1:IntKind.i64.wrap (n:Int)=n:=by rw[Č];omega
 have e2:IntKind.i64.wrap ((n:Int)+1-1)=n:=ε;have l1:(0:Int)<=(n:Int):=ζ;have l2:n<=cap:=ζ;have l3:n<n+1:=ζ;clear hW hF;go_enter func243,ntmps243;go_wp2_with fail;go_region_with (first
  |(go_at_call 56;refine(HW.u _ ?_).mono ?_;exact⟨rfl,rfl,rfl,Á _,λ_ _=>rfl⟩;rintro x w2⟨rfl,hb2⟩;replace hb2:Bl w w2:=bx hb2)
  |(go_at_call 81;refine(HF.u _ ?_).mono ?_;exact ζ;rintro e w3⟨x,c,rfl,hR,hb3⟩))
 all_goals (
  replace hb3:Bl w w3:=hb2.trans ⟨hb3.os,hb3.tape,hb3.output,hb3.size,λk hk=>hb3.block k (Õ hk hb2.size)⟩;have q5:w3.cell? ⟨g,o+n,none⟩=some (.string ⟨t.toArray⟩):=(hb3.cell (p:=⟨g,o+n,none⟩) hg).trans ht;have q4:=Ab hb3;have HR:Hid (R w3 x c):=hR;clear hb2 hb3 hB ht hR;go_wp2_with fail;go_region_with (fail))
 all_goals (
  go_wp2_with fail;refine Ì (v:=.tuple #[.pointer x,.string ⟨t.toArray⟩,InB c]) (by simp[A4,results243,go_sem]) rfl ?_;have h3:=q4.u;exact⟨x,c,rfl,Ab ⟨w3,HR.u,rfl⟩,⟨h3.os,h3.tape,h3.output,h3.size,h3.block⟩⟩)
theorem nR:(Tryz.prog.info? 9).map (λi=>(i.zero,i.size,i.bytes))=some (some (.string ⟨#[]⟩),1,16):=δ
abbrev OS(l:List By):List AT:=l.map λt=>.string ⟨t.toArray⟩
theorem QX{w:AS}{g o cap:Nat}(ht:Dw w g o l)(hl:0<l.length)(hb:l.length<=1000000000):
  A1 AI 289 #[.slice (some ⟨g,o,none⟩) l.length cap] w λe w'=>∃g2 c2,e=.returned (SlB g2 l.length c2)/\w'.ownsRow w.1.size 9 1 (SlB g2 l.length c2) l.length (OS l)/\Bl w w':=by
 obtain⟨i0,q0,hz0,q4,hz2⟩:=ę nR;have hc:=AnyE.slices_Clone Tryz.eClone i0 (.string ⟨#[]⟩) 1 16 q0 hz0 q4 hz2 rfl η (λw=>Tryz.sizeOf9 w) g o l.length cap (OS l) w φ (by unfold Bs;omega) ζ (λj u hu=>by
  obtain⟨hj,rfl⟩:=ß.1 hu;rw[é];exact ht.2 j ε) (λu hu=>by
  obtain⟨t,_,rfl⟩:=Ò.1 hu;rfl)
 refine hc.mono ?_;rintro e w' ⟨v',rfl,ho,hne,hb⟩;rcases ho.2 with⟨h,_⟩|⟨g2,c2,cur,rfl,_⟩
 .omega
 .exact⟨g2,c2,rfl,ho,hb⟩
theorem Rv{w:AS}{g o n cap i:Nat}(hT:Aj w)(ht:Dw w g o l)(hl:l.length=n+1)(hb:l.length<=1000000000)(hi:i<=1000000000000):
  A1 AI 245 #[.slice (some ⟨g,o,none⟩) (n+1) cap,.int .i64 i] w λe w'=>∃g2 c2,e=.returned (SlB g2 (n+1) c2)/\w'.ownsRow w.1.size 9 1 (SlB g2 (n+1) c2) (n+1) (OS (l.set n (B4 (i:Int))))/\Bl w w':=by
 have HC:=Ab (QX (cap:=cap) ht ζ hb);have HT:=Ab hT;rw[hl]at HC;have e1:IntKind.i64.wrap (n:Int)=n:=by rw[Č];omega
 have e2:IntKind.i64.wrap ((n:Int)+1-1)=n:=ε;have l3:n<n+1:=ζ;have l4:(0:Int)<=(n:Int):=ζ;have HL:=Ab hl;clear hT ht hl hb;go_enter func245,ntmps245;go_wp2_with fail;refine HC.u.mono ?_;rintro e w2⟨g2,c2,rfl,ho,q5⟩;have HO:=Ab ho;have HB:=Ab q5;have q6:=(HT.u.below (q5.mono HT.u.ng)).tab;clear ho q5 HC;go_wp2_with fail;refine(Tryz.strconv_Itoa i ζ ζ w2 q6).mono ?_;rintro e w5⟨rfl,kk,os,rfl⟩;have q4:=F9 w2 kk os;generalize Sort.grow (w2.drewN kk) os=w5 at*;have hg2:w.1.size<=g2/\g2<w2.1.size:=by
  have h:=Bt HO.u g2 rfl;omega
 have q0:=Bz (w':=w5) HO.u λk hk=>by
  simp[BY]at hk;subst hk;exact q4.block _ hg2.2
 have qd:n<l.length:=by rw[HL.u];exact l3
 have q7:w5.cell? ⟨g2,n,none⟩=some (.string ⟨l[n].toArray⟩):=by
  rw[q0.cellAt n ζ,Þ,Ô qd];rfl
 have hz:w5.frozen? ⟨g2,n,none⟩=false:=by
  rcases q0.2 with⟨h',_⟩|⟨g',qb,cur,h',_,hg,_⟩
  .simp at h'
  .simp only[Value.slice.injEq,Option.some.injEq,Addr.mk.injEq,and_true,true_and]at h';obtain⟨rfl,_⟩:=h';simp[C0,hg]
 have q9:=Ab q0;have q8:=Ab (HB.u.trans (q4.mono ζ));clear q0 q4 q6;go_wp2_with fail;refine Ì (v:=SlB g2 (n+1) c2) (by simp[A4,results245,go_sem]) rfl ⟨g2,c2,rfl,?_,An q8.u g2 n hg2.1 _⟩;have h:=(q9.u.stored n (.string ⟨(B4 (i:Int)).toArray⟩)).1;simp_all
theorem OC:∀{l m:List By},Lib.allEq (λx y:ByteArray=>x.toList==y.toList) (l.map λt=>⟨t.toArray⟩) (m.map λt=>⟨t.toArray⟩)=(l==m)
 |[],[]=>rfl
 |[],_::_=>rfl
 |_::_,[]=>rfl
 |x::l,y::m=>by
  have ih:=OC (l:=l) (m:=m);simp only[Ð,Lib.allEq];rw[ih];show _=(x==y && l==m)
  rw[CD,CD]
theorem TL{w:AS}{a1 a2:Option Addr}{n c m d:Nat}(h:n≠m):CB 202 #[.slice a1 n c,.slice a2 m d] w (.bool false):=by
 have e1:¬((n:Int)=(m:Int)):=ζ;have e2:((n:Int)!=(m:Int))=true:=ε;have e3:((n:Int)==(m:Int))=false:=ε;go_enter func202,ntmps202;go_wp2_with fail;go_ret;exact⟨rfl,Â _ _⟩
theorem TM{w:AS}{g1 o1 c1 g2 o2 c2:Nat}{m:List By}(h1:Dw w g1 o1 l)(h2:Dw w g2 o2 m)(hl:l.length<=Bs)(hm:m.length<=Bs):
  CB 202 #[.slice (some ⟨g1,o1,none⟩) l.length c1,.slice (some ⟨g2,o2,none⟩) m.length c2] w (.bool (l==m)):=by
 unfold Bs at hl hm;have hc:=AnyE.slices_Equal Tryz.eEqual Value.string (λx y=>x.toList==y.toList) (NeqAt.string _ _) g1 o1 l.length c1 g2 o2 m.length c2 (l.map λt=>⟨t.toArray⟩) (m.map λt=>⟨t.toArray⟩) w φ φ ζ ζ (λj hj=>by
  have q0:j<l.length:=ε;rw[h1.2 j q0,getElem!_pos _ j hj,é]) (λj hj=>by
  have q0:j<m.length:=ε;rw[h2.2 j q0,getElem!_pos _ j hj,é])
 refine hc.mono ?_;rintro e w' ⟨rfl,q,rfl⟩;refine⟨?_,⟨rfl,rfl,rfl,Á _,λ_ _=>rfl⟩⟩;rw[Ï φ,Ï φ,OC]
theorem TN{w:AS}{a1 a2:Option Addr}{c d:Nat}:CB 202 #[.slice a1 0 c,.slice a2 0 d] w (.bool true):=by
 go_enter func202,ntmps202;go_wp2
 go_loopg [13] 0 (λg q0 wr=>q0=.int .i64 (0:Nat)/\wr=w)
 case atStart=>grind
 case round=>
  obtain⟨rfl,rfl⟩:=hrel;go_wp2;go_ret;exact⟨rfl,Â _ _⟩
theorem Dl.form{w:AS}{v:AT}(h:Dl w v l):∃a c,v=.slice a l.length c/\l.length<=c\/l.length=0/\v=.slice a l.length c:=by
 rcases h with⟨rfl,a,c,rfl,_⟩|⟨g,o,cap,rfl,h1,_⟩
 .simp_all
 grind
theorem KN{w:AS}{v1 v2:AT}{m:List By}(h1:Dl w v1 l)(h2:Dl w v2 m):
  CB 202 #[v1,v2] w (.bool (l==m)):=by
 by_cases q5:l.length=m.length
 .by_cases hl0:l.length=0
  .have hl:l=[]:=ε;have hm:m=[]:=ε;subst hl;subst hm;obtain⟨a1,c1,e1⟩:=h1.form;obtain⟨a2,c2,e2⟩:=h2.form;have q0:v1=.slice a1 0 c1:=ε;have q4:v2=.slice a2 0 c2:=ε;subst q0;subst q4;exact TN
  .rcases h1 with⟨rfl,_⟩|⟨g1,o1,c1,rfl,b1,b2,t1⟩
   .exact absurd rfl hl0
   .rcases h2 with⟨rfl,_⟩|⟨g2,o2,c2,rfl,d1,d2,t2⟩
    .exact absurd q5 hl0
    .exact TM t1 t2 ζ ζ
 .obtain⟨a1,c1,e1⟩:=h1.form;obtain⟨a2,c2,e2⟩:=h2.form;have q0:v1=.slice a1 l.length c1:=ε;have q4:v2=.slice a2 m.length c2:=ε;subst q0;subst q4;refine(TL q5).mono λe w' ⟨rfl,hb⟩=>?_;have:(l==m)=false:=ε;grind
theorem U5{w:AS}{v1 v2:AT}{m:List By}(h1:Dl w v1 l)(h2:Dl w v2 m):
  CB 203 #[v1,v2] w (.bool (E3 l m)):=by
 obtain⟨a2,c2,e2⟩:=h2.form;have q0:v2=.slice a2 m.length c2:=ε;clear e2;subst q0;by_cases hlt:m.length<l.length
 .rcases h1 with⟨rfl,_⟩|⟨g1,o1,c1,rfl,b1,b2,t1⟩
  .simp at hlt
  .have hT:Dl w (.slice (some ⟨g1,o1,none⟩) m.length c1) (l.take m.length):=by
    have hl:(l.take m.length).length=m.length:=ε;refine À ⟨g1,o1,c1,by rw[hl],ζ,b2,t1.1,λk hk=>?_⟩;rw[t1.2 k ζ];simp
   have HC:=Ab (KN hT h2);have HE:=Ab (show E3 l m=(l.take m.length==m) by grind [E3,A4,results203]);have e1:decide ((m.length:Int)<(l.length:Int))=true:=ε;have l1:(m.length:Int)<(l.length:Int):=ζ;have l2:m.length<=c1:=ζ;have l4:(0:Int)<=(m.length:Int):=ζ;generalize m.length=M at*;generalize l.length=LL at*;clear hT h2 t1;go_enter func203,ntmps203;go_wp2_with fail;refine HC.u.mono ?_;rintro e w2⟨rfl,hb⟩;go_wp2_with fail;refine Ì (v:=.bool (l.take M==m)) (by simp[A4,results203,go_sem]) rfl ⟨by rw[HE.u],hb⟩
 .have HE:=Ab (show E3 l m=false by grind [E3,A4,results203]);obtain⟨a1,c1,f1⟩:=h1.form;have q4:v1=.slice a1 l.length c1:=ε;clear f1;subst q4;have e1:decide ((m.length:Int)<(l.length:Int))=false:=ε;have l1:¬(m.length:Int)<(l.length:Int):=ζ;generalize m.length=M at*;generalize l.length=LL at*;clear h1 h2;go_enter func203,ntmps203;go_wp2_with fail;refine Ì (v:=.bool false) (by simp[A4,results203,go_sem]) rfl ⟨by rw[HE.u],Â _ _⟩
theorem Mf{f:Nat}{w:AS}{u:AT}{n:pN}{t:By}{d:pL}(h:Ad (f+1) w u n)(hc:qA (pT (f+1) n) t=.ok d):
  ∃i c x,sY (pT (f+1) n) t=some i/\(AM n)[i]?=some c/\pT f c=d/\Ad f w x c:=by
 have h0:=h;obtain⟨b,g,x,rfl,rfl,h⟩:=h;rcases h with⟨k,hk,_,rfl,h⟩|⟨m,_,rfl,h,q7⟩|⟨s,_,rfl,h⟩|⟨al,sl,ps,rfl,h,ho,hs,ha⟩|⟨es,m,D,rfl,h,ho,hp⟩
 .rw[YC]at hc;cases hc
 .rw[eH]at hc;cases hc
 .rw[eF]at hc;cases hc
 .rw[Bn]at hc;obtain⟨i,h1,h2,h3⟩:=JF hc;rw[Þ]at h2;obtain⟨c,q4,q6⟩:=à.1 h2;obtain⟨y,hy⟩:=ha.right (ñ q4);exact⟨i,c,y,h3,q4,q6,hy⟩
 .have hh:B1 (.map D:CR AT) (.string t)=B1 (.map (es.map λp=>(p.1,pT f p.2)):CR Unit) (.string t):=
   (Pt.mapR (P:=λ_ _=>True) (q:=pT f) (hp.mono λ_ _ _=>trivial)).has _
  have q5:qA (pT (f+1) (pS b g (.map es))) t=(if B1 (.map D:CR AT) (.string t)then .ok ((C2 (es.map λp=>(p.1,pT f p.2))).atKey (.string t) .nil)else .error 11):=by
   rw[hh];rfl
  rw[q5]at hc;by_cases q0:B1 (.map D:CR AT) (.string t)=true
  .rw[if_pos q0]at hc;injection hc with hc;obtain⟨i,key,c,x,e1,e2,e3,e4,e5⟩:=hp.first (.string t) q0;refine⟨i,c,x,?_,?_,?_,e5⟩
   .rw[Bc];unfold sY Ap;simp only;rw[List.findIdx?_map];exact e1
   .rw[Cg,Þ,e2];rfl
   .rw[<-hc,Co,List.find?_map,show((λp=>p.1.sameKey (.string t)) ∘ λp:Lit×pN=>(p.1,pT f p.2))=λp=>p.1.sameKey (.string t)from rfl,e3];rfl
  grind
theorem CY(t:By):∀(s:List By) (d:pL),Ag d (s++[t])=(match Ag d s with|.ok n=>qA n t |.error c=>.error c)
 |[],d=>by
  show(match qA d t with|.ok e=>Except.ok e |.error c=>.error c)=qA d t;grind
 |u::s,d=>by
  rw[Ü,Ag,Ag];cases qA d u with
  |ok e=>exact CY t s e
  |error c=>rfl
theorem Db{w:AS}{v:AT}{d:pL}:∀{s:List By}{fa:Nat}{a:pN},Ad fa w v a->Ag (pT fa a) s=.ok d ->
  ∃f q n u,f+1+q.length=fa/\qE q a=some n/\Ad (f+1) w u n/\pT (f+1) n=d/\CN (pT fa a) s=some q:=by
 intro s fa a h hf
 suffices H:∀(k:Nat) (s:List By) (d:pL),s.length=k->Ag (pT fa a) s=.ok d ->∃f q n u,f+1+q.length=fa/\qE q a=some n/\Ad (f+1) w u n/\pT (f+1) n=d/\CN (pT fa a) s=some q from H _ s d rfl hf
 intro k;induction k with
 |zero=>
  intro s d hl hf;obtain rfl:s=[]:=ε;injection hf with hf;cases fa with
  |zero=>exact h.elim
  |succ fa=>exact⟨fa,[],a,v,rfl,rfl,h,hf,rfl⟩
 |succ k ih=>
  intro s d hl hf;obtain⟨s0,t,rfl⟩:∃s0 t,s=s0++[t]:=⟨s.dropLast,s.getLast ε,(ë _).symm⟩
  rw[CY]at hf;cases hs:Ag (pT fa a) s0 with
  |error c=>grind
  |ok n'=>
   rw[hs]at hf;obtain⟨f,q,n,u,h1,h2,h3,rfl,h5⟩:=ih s0 n' ε hs;obtain⟨i,c,x,e1,e2,e3,e4⟩:=Mf h3 hf;cases f with
   |zero=>exact e4.elim
   |succ f=>
    have q0:BD q (pT fa a)=some (pT (f+1+1) n):=by
     rw[<-h1];exact II (f:=f+1+1) (by rw[h1];exact h) h2
    refine⟨f,q++[i],c,x,ω,K8 e2 h2,e4,e3,?_⟩;exact JV e1 (show(AW (pT (f+1+1) n))[i]?=some (pT (f+1) c) by rw[Es h3,Þ,e2];rfl) h5 q0
theorem Ni{fa f:Nat}{a n:pN}{w:AS}{v u:AT}{q:List Nat}{d:pL}(hl:∀t∈l,t.length<=1048576)(hn:l.length<=1048576)(hr:Rng w)(h:Ad fa w v a)(hp:Dl w pv l)(hf:Ag (pT fa a) l=.ok d)(hs:qE q a=some n)(hu:Ad (f+1) w u n)(hpos:CN (pT fa a) l=some q):
  CB 81 #[pv,v] w (.tuple #[u,InB 0]):=by
 refine(dK hl hn hr h hp).mono λe w' ⟨ho,hb⟩=>?_;refine⟨?_,hb⟩;rw[hf]at ho;obtain⟨u2,rfl,_,f2,p2,n2,h1,h2,h3,h4,h5⟩:=ho;rw[hpos]at h5;cases h5;rw[hs]at h2;cases h2;obtain rfl:=h3.uniq hu;rfl
theorem LC{fa c:Nat}{a:pN}{w:AS}{v:AT}(hl:∀t∈l,t.length<=1048576)(hn:l.length<=1048576)(hr:Rng w)(h:Ad fa w v a)(hp:Dl w pv l)(hf:Ag (pT fa a) l=.error c):
  CB 81 #[pv,v] w (.tuple #[.pointer none,InB c]):=by
 refine(dK hl hn hr h hp).mono λe w' ⟨ho,hb⟩=>?_;refine⟨?_,hb⟩;rw[hf]at ho;exact ho
theorem D8.bel{w w':AS}{D R:Nat}{wp jn iv:AT}{ch:Bool}{T a:pN}{x:pL}(h:D8 w D R wp jn iv ch T a x)(hb:Bl w w'):D8 w' D R wp jn iv ch T a x:=
 h.move (hb.block D h.db.lt) λk hk=>hb.block k (h.tr.lt k hk)
structure JS(w:AS)(D R:Nat)(wp:Option Addr)(jn iv:AT)(ch:Bool)(Tb:pN)(Mb:Nat->Prop)(wb:AS)(T a:pN)(v:pL)(M:Nat->Prop)(js:List pW):Prop where
 j:B7 (top+1) w D (PtB R) jn iv ch Tb Mb wb T M js
 t:D8 w D R (.pointer wp) jn iv ch T a v
section
variable{w w':AS}{D R:Nat}{wp:Option Addr}{jn iv:AT}{ch:Bool}{Tb T a:pN}{Mb M:Nat->Prop}{wb:AS}{v:pL}{js:List pW}
theorem JS.of{g:Nat}(hJ:B7 (top+1) w D (PtB R) jn iv ch Tb Mb wb T M js)(e:er (top+1) T=er (top+1) (pS R g (.slice [a1] []))):
  ∃wp a,JS w D R wp jn iv ch Tb Mb wb T a (pT top a1) M js:=by
 obtain⟨g',q0,rfl,e2⟩:=hJ.tr.er_arr e;obtain⟨a,rfl⟩:∃a,q0=[a]:=List.length_eq_one_iff.1 (by have:=congrArg CH e2;simpa using this)
 .have e3:er top a=er top a1:=by
   have:=congrArg (λl:List pN=>l[0]?) e2;simpa using this
  obtain⟨xs,cs,g1,_⟩:=hJ.ex;obtain⟨u,hu⟩:∃u,Ad top w u a:=Ad.at (f:=top) (p:=[0]) hJ.tr rfl;obtain⟨b,rfl,_⟩:=hu.ptr;exact⟨some ⟨b,0,none⟩,a,hJ,⟨g1,hJ.tr,⟨g',rfl⟩,hu,by rw[<-Ii,e3,Ii],hJ.nd,hJ.dD.1⟩⟩
theorem JS.bel(h:JS w D R wp jn iv ch Tb Mb wb T a v M js)(hb:Bl w w'):JS w' D R wp jn iv ch Tb Mb wb T a v M js:=⟨(h.j.bel hb).1,h.t.bel hb⟩
theorem JS.grow(h:JS w D R wp jn iv ch Tb Mb wb T a v M js)(hb:Bl w w')(X:Nat->Prop)(hX:∀k,X k->w.1.size<=k/\k<w'.1.size):
  JS w' D R wp jn iv ch Tb Mb wb T a v (λk=>M k\/X k) js/\JEx M (λk=>M k\/X k) w w':=⟨⟨(h.j.grow hb X hX).1,h.t.bel hb⟩,(h.j.grow hb X hX).2⟩
theorem JW{g o n cap f:Nat}{t:By}{q:List Nat}{m:pN}{u:Option Addr}{d:pL}(h:JS w D R wp jn iv ch Tb Mb wb T a v M js)(hr:Rng w)(hp:Dw w g o (s++[t]))(hn:s.length=n)(hc:n+1<=cap)(q0:cap<=Bs)(hl:∀t∈s,t.length<=1048576)(q4:n<=1048576)(hf:Ag v s=.ok d)(hs:qE q a=some m)(hu:Ad (f+1) w (.pointer u) m)(hpos:CN v s=some q):
  CB 243 #[PtB D,.slice (some ⟨g,o,none⟩) (n+1) cap] w (.tuple #[.pointer u,.string ⟨t.toArray⟩,InB 0]):=by
 subst hn;have hv:=h.t.str;subst hv;refine(KX (t:=t) (wp:=wp) (R:=λ_ x c=>x=u/\c=0) hc q0 hp.1 ?_ (λw1 hb1=>E8 (h.t.bel hb1)) (λw1 hb1=>?_)).mono ?_
 .rw[hp.2 s.length φ];simp
 .refine (Ni hl q4 (hr.kept hb1) (h.t.bel hb1).sub (À ⟨g,o,cap,rfl,ζ,q0,Õ hp.1 hb1.size,λk hk=>?_⟩) hf hs (hu.bel hb1) hpos).mono ?_
  .have h1:=hp.2 k ω;rw[(hb1.cell (p:=⟨g,o+k,none⟩) hp.1).trans h1,B2 hk]
  .rintro e w' ⟨rfl,hb⟩;exact⟨u,0,rfl,⟨rfl,rfl⟩,hb⟩
 .rintro e w' ⟨x,c,rfl,⟨w2,⟨rfl,rfl⟩,_⟩,hb⟩;exact⟨rfl,hb⟩
theorem LY{g o n cap c:Nat}{t:By}(h:JS w D R wp jn iv ch Tb Mb wb T a v M js)(hr:Rng w)(hp:Dw w g o (s++[t]))(hn:s.length=n)(hc:n+1<=cap)(q0:cap<=Bs)(hl:∀t∈s,t.length<=1048576)(q4:n<=1048576)(hf:Ag v s=.error c):
  CB 243 #[PtB D,.slice (some ⟨g,o,none⟩) (n+1) cap] w (.tuple #[.pointer none,.string ⟨t.toArray⟩,InB c]):=by
 subst hn;have hv:=h.t.str;subst hv;refine(KX (t:=t) (wp:=wp) (R:=λ_ x c'=>x=none/\c'=c) hc q0 hp.1 ?_ (λw1 hb1=>E8 (h.t.bel hb1)) (λw1 hb1=>?_)).mono ?_
 .rw[hp.2 s.length φ];simp
 .refine (LC hl q4 (hr.kept hb1) (h.t.bel hb1).sub (À ⟨g,o,cap,rfl,ζ,q0,Õ hp.1 hb1.size,λk hk=>?_⟩) hf).mono ?_
  .have h1:=hp.2 k ω;rw[(hb1.cell (p:=⟨g,o+k,none⟩) hp.1).trans h1,B2 hk]
  .rintro e w' ⟨rfl,hb⟩;exact⟨none,c,rfl,⟨rfl,rfl⟩,hb⟩
 .rintro e w' ⟨x,c',rfl,⟨w2,⟨rfl,rfl⟩,_⟩,hb⟩;exact⟨rfl,hb⟩
end
abbrev plZ:AT:=.agg #[.slice none 0 0,.pointer none,.string ⟨#[]⟩,InB 0]
def ZB(w:AS)(g:Nat):Prop:=w.1[g]?=some (.cells #[.slice none 0 0,.pointer none,.string ⟨#[]⟩,InB 0] 185 (0,0))
section
variable{w:AS}{g:Nat}
theorem ZB.lt(h:ZB w g):g<w.1.size:=(È.1 h).1
theorem ZB.c0(h:ZB w g):CeB w g 0=some (.slice none 0 0):=ck h
theorem ZB.c1(h:ZB w g):CeB w g 1=some (.pointer none):=ck h
theorem ZB.c2(h:ZB w g):CeB w g 2=some (.string ⟨#[]⟩):=ck h
theorem ZB.c3(h:ZB w g):CeB w g 3=some (InB 0):=ck h
theorem ZB.fz(h:ZB w g)(o:Nat):w.frozen? ⟨g,o,none⟩=false:=fk h
theorem ZB.low{w':AS}(h:ZB w g)(hb:Bl w w'):ZB w' g:=(hb.block g h.lt).trans h
theorem TA(w:AS):∃wa,Hid (wa=w.alloc (.cells #[.slice none 0 0,.pointer none,.string ⟨#[]⟩,InB 0] 185))/\ZB wa w.1.size/\Hid (Bl w wa):=⟨_,rfl,Ê w _,(Â _ _).alloc (Á _) _⟩
end
theorem C3{B:Nat}{w w':AS}(h:A5 B w w')(b:Nat)(hb:B<=b)(x0 x1 x2 x3:AT):A5 B w ((((w'.setCell ⟨b,0,none⟩ x0).setCell ⟨b,1,none⟩ x1).setCell ⟨b,2,none⟩ x2).setCell ⟨b,3,none⟩ x3):=
 An (An (An (An h b _ hb _) b _ hb _) b _ hb _) b _ hb _
section
variable{w:AS}{D R g o n cap:Nat}{jn iv:AT}{ch:Bool}{t:By}{x y:Option Addr}{c c2:Nat}
theorem U1{a:Option Addr}(hd:DB w D (PtB R) jn ch iv):
  CB 198 #[PtB D,.slice a 0 cap] w (.tuple #[plV (.slice none 0 0) R [] 0,InB 0]):=by
 have q4:=hd.lt;have q0:∀o,(w.alloc o).cell? ⟨D,0,none⟩=some (PtB R):=λo=>(Ç (w:=w) (Ä w o D q4)).trans hd.c0;have d0:=q0 (.cells #[.slice none 0 0,.pointer none,.string ⟨#[]⟩,InB 0] 185);clear hd q0;go_enter func198,ntmps198;go_wp2_with fail;refine Ì (v:=.tuple #[plV (.slice none 0 0) R [] 0,InB 0]) (by simp[A4,results198,go_sem]) rfl ⟨rfl,?_⟩;exact(Â _ _).alloc (Á _) _
theorem U0(hc:c≠0)(hP:∀w1,Bl w w1->CB 243 #[PtB D,.slice (some ⟨g,o,none⟩) (n+1) cap] w1 (.tuple #[.pointer x,.string ⟨t.toArray⟩,InB c])):
  CB 198 #[PtB D,.slice (some ⟨g,o,none⟩) (n+1) cap] w (.tuple #[plZ,InB c]):=by
 have HP:=Ab hP;obtain⟨wa,q5,q0,q4⟩:=TA w;have HZ:=Ab q0;have e1:¬((n:Int)+1=0):=ζ;have e2:((c:Int)!=0)=true:=by rw[bne_iff_ne];omega
 have e3:((c:Int)==0)=false:=by rw[beq_eq_false_iff_ne];omega
 have hs:=q0.lt;clear hP q0;go_enter func198,ntmps198;go_wp2_with fail;rw[<-q5.u];refine(HP.u wa q4.u).mono ?_;rintro e w2⟨rfl,hb⟩;have h2:=HZ.u.low hb;have g0:=h2.c0;have g1:=h2.c1;have g2:=h2.c2;have g3:=h2.c3;have z:=h2.fz;have HB:=Ab (q4.u.trans (hb.mono ζ));clear h2 hb;go_wp2_with fail;refine Ì (v:=.tuple #[plZ,InB c]) (by simp[A4,results198,go_sem,g0,g1,g2,g3]) rfl ⟨rfl,C3 HB.u _ (Á _) _ _ _ _⟩
theorem U2(hc:c≠0)(hP:∀w1,Bl w w1->CB 243 #[PtB D,.slice (some ⟨g,o,none⟩) (n+1) cap] w1 (.tuple #[.pointer x,.string ⟨t.toArray⟩,InB 0]))(hK:∀w1,Bl w w1->CB 111 #[.pointer x,.string ⟨t.toArray⟩] w1 (.tuple #[.pointer y,InB c])):
  CB 198 #[PtB D,.slice (some ⟨g,o,none⟩) (n+1) cap] w (.tuple #[plZ,InB c]):=by
 have HP:=Ab hP;have HK:=Ab hK;obtain⟨wa,q6,q0,q4⟩:=TA w;have HZ:=Ab q0;have e1:¬((n:Int)+1=0):=ζ;have e2:((c:Int)!=0)=true:=by rw[bne_iff_ne];omega
 have e3:((c:Int)==0)=false:=by rw[beq_eq_false_iff_ne];omega
 have hs:=q0.lt;clear hP hK q0;go_enter func198,ntmps198;go_wp2_with fail;rw[<-q6.u];refine(HP.u wa q4.u).mono ?_;rintro e w2⟨rfl,hb⟩;have h2:=HZ.u.low hb;have q7:=Ab h2;have hs2:w.1.size<w2.1.size:=h2.lt;have HB:=Ab (q4.u.trans (hb.mono ζ));clear h2 hb;go_wp2_with fail;refine(HK.u w2 HB.u).mono ?_;rintro e w3⟨rfl,hb⟩;have h2:=q7.u.low hb;have g0:=h2.c0;have g1:=h2.c1;have g2:=h2.c2;have g3:=h2.c3;have z:=h2.fz;have q5:=Ab (HB.u.trans (hb.mono ζ));clear h2 hb;go_wp2_with fail;refine Ì (v:=.tuple #[plZ,InB c]) (by simp[A4,results198,go_sem,g0,g1,g2,g3]) rfl ⟨rfl,C3 q5.u _ (Á _) _ _ _ _⟩
theorem XJ{b:Nat}{io:Option Nat}(hP:∀w1,Bl w w1->CB 243 #[PtB D,.slice (some ⟨g,o,none⟩) (n+1) cap] w1 (.tuple #[PtB b,.string ⟨t.toArray⟩,InB 0]))(hK:∀w1,Bl w w1->A1 AI 111 #[PtB b,.string ⟨t.toArray⟩] w1 λe w'=>(∃y,e=.returned (.tuple #[.pointer y,InB 0]))/\Bl w1 w')(hI:∀w1,Bl w w1->CB 147 #[.string ⟨t.toArray⟩] w1 (FY io)):
  CB 198 #[PtB D,.slice (some ⟨g,o,none⟩) (n+1) cap] w (.tuple #[plV (.slice (some ⟨g,o,none⟩) (n+1) cap) b t (io.getD 0),InB 0]):=by
 obtain⟨i,bo,q0⟩:∃(i:Nat) (bo:Bool),FY io=.tuple #[InB i,.bool bo]/\io.getD 0=i:=by
  cases io with
  |none=>exact⟨0,false,rfl,rfl⟩
  |some i=>exact⟨i,true,rfl,rfl⟩
 rw[q0.1]at hI;rw[q0.2];clear q0;have HP:=Ab hP;have HK:=Ab hK;have HI:=Ab hI;obtain⟨wa,q8,q4,q6⟩:=TA w;have HZ:=Ab q4;have e1:¬((n:Int)+1=0):=ζ;have hs:=q4.lt;clear hP hK hI q4;go_enter func198,ntmps198;go_wp2_with fail;rw[<-q8.u];refine(HP.u wa q6.u).mono ?_;rintro e w2⟨rfl,hb⟩;have h2:=HZ.u.low hb;have q9:=Ab h2;have hs2:w.1.size<w2.1.size:=h2.lt;have HB:=Ab (q6.u.trans (hb.mono ζ));clear h2 hb;go_wp2_with fail;refine(HK.u w2 HB.u).mono ?_;rintro e w3⟨⟨y,rfl⟩,hb⟩;have h2:=q9.u.low hb;have qb:=Ab h2;have qd:w.1.size<w3.1.size:=h2.lt;have q5:=Ab (HB.u.trans (hb.mono ζ));clear h2 hb;go_wp2_with fail;refine(HI.u w3 q5.u).mono ?_;rintro e w4⟨rfl,hb⟩;have h2:=qb.u.low hb;have g0:=h2.c0;have g1:=h2.c1;have g2:=h2.c2;have g3:=h2.c3;have z:=h2.fz;have q7:=Ab (q5.u.trans (hb.mono ζ));clear h2 hb;go_wp2_with fail;refine Ì (v:=.tuple #[plV (.slice (some ⟨g,o,none⟩) (n+1) cap) b t i,InB 0]) (by simp[A4,results198,go_sem,g0,g1,g2,g3]) rfl ⟨rfl,C3 q7.u _ (Á _) _ _ _ _⟩
end
section
variable{w:AS}{D R g o n cap b i:Nat}{t:By}{y:Option Addr}{c:Nat}{Q1 Q2 Q3:Option Addr->AS->Prop}{Q4:Option Addr->Nat->Nat->AS->Prop}{Q:AS->Prop}
theorem bK{a:Option Addr}(hC:A1 AI 201 #[.pointer y] w λe w'=>∃x,e=.returned (.pointer x)/\Hid (Q1 x w'))(hR:∀x w1,Q1 x w1->CeB w1 D 0=some (PtB R))(hP:∀x w1,Q1 x w1->A1 AI 160 #[PtB D,plV (.slice none 0 0) R [] 0,.pointer x] w1 λe w'=>e=.returned (.tuple #[])/\Q w'):
  A1 AI 197 #[PtB D,.slice a 0 cap,.pointer y] w λe w'=>e=.returned (InB 0)/\Q w':=by
 have HC:=Ab hC;have HR:=Ab hR;have HP:=Ab hP;clear hC hR hP;go_enter func197,ntmps197;go_wp2_with fail;refine HC.u.mono ?_;rintro e w1⟨x,rfl,hq⟩;have c0:=HR.u x w1 hq.u;go_wp2_with fail;refine(HP.u x w1 hq.u).mono ?_;rintro e w2⟨rfl,q0⟩;have q4:=Ab q0;clear q0;go_wp2;go_ret;exact⟨rfl,q4.u⟩
theorem bJ(hc:c≠0)(hC:A1 AI 201 #[.pointer y] w λe w'=>∃x,e=.returned (.pointer x)/\Hid (Q1 x w'))(hP:∀x w1,Q1 x w1->A1 AI 243 #[PtB D,.slice (some ⟨g,o,none⟩) (n+1) cap] w1 λe w'=>e=.returned (.tuple #[.pointer none,.string ⟨t.toArray⟩,InB c])/\Q w'):
  A1 AI 197 #[PtB D,.slice (some ⟨g,o,none⟩) (n+1) cap,.pointer y] w λe w'=>e=.returned (InB c)/\Q w':=by
 have HC:=Ab hC;have HP:=Ab hP;have e1:¬((n:Int)+1=0):=ζ;have e2:((c:Int)!=0)=true:=by rw[bne_iff_ne];omega
 have e3:((c:Int)==0)=false:=by rw[beq_eq_false_iff_ne];omega
 clear hC hP hc;go_enter func197,ntmps197;go_wp2_with fail;refine HC.u.mono ?_;rintro e w1⟨x,rfl,hq⟩;go_wp2_with fail;refine(HP.u x w1 hq.u).mono ?_;rintro e w2⟨rfl,q0⟩;have q4:=Ab q0;clear q0;go_wp2;go_ret;exact⟨rfl,q4.u⟩
theorem Qv(hC:A1 AI 201 #[.pointer y] w λe w'=>∃x,e=.returned (.pointer x)/\Hid (Q1 x w'))(hP:∀x w1,Q1 x w1->A1 AI 243 #[PtB D,.slice (some ⟨g,o,none⟩) (n+1) cap] w1 λe w'=>e=.returned (.tuple #[PtB b,.string ⟨t.toArray⟩,InB 0])/\Q2 x w')(hK:∀x w2,Q2 x w2->CeB w2 b 0=some (InB 6))(hU:∀x w2,Q2 x w2->A1 AI 160 #[PtB D,plV (.slice (some ⟨g,o,none⟩) (n+1) cap) b t 0,.pointer x] w2 λe w'=>e=.returned (.tuple #[])/\Q w'):
  A1 AI 197 #[PtB D,.slice (some ⟨g,o,none⟩) (n+1) cap,.pointer y] w λe w'=>e=.returned (InB 0)/\Q w':=by
 have HC:=Ab hC;have HP:=Ab hP;have HK:=Ab hK;have HU:=Ab hU;have e1:¬((n:Int)+1=0):=ζ;clear hC hP hK hU;go_enter func197,ntmps197;go_wp2_with fail;refine HC.u.mono ?_;rintro e w1⟨x,rfl,hq⟩;go_wp2_with fail;refine(HP.u x w1 hq.u).mono ?_;rintro e w2⟨rfl,q0⟩;have q5:=Ab q0;have c0:=HK.u x w2 q0;clear q0;go_wp2_with fail;refine(HU.u x w2 q5.u).mono ?_;rintro e w3⟨rfl,q4⟩;have q6:=Ab q4;clear q4;go_wp2;go_ret;exact⟨rfl,q6.u⟩
theorem Ki{k:Int}(h5:k≠5)(h6:k≠6)(hC:A1 AI 201 #[.pointer y] w λe w'=>∃x,e=.returned (.pointer x)/\Hid (Q1 x w'))(hP:∀x w1,Q1 x w1->A1 AI 243 #[PtB D,.slice (some ⟨g,o,none⟩) (n+1) cap] w1 λe w'=>e=.returned (.tuple #[PtB b,.string ⟨t.toArray⟩,InB 0])/\Q w')(hK:∀w2,Q w2->CeB w2 b 0=some (InB k)):
  A1 AI 197 #[PtB D,.slice (some ⟨g,o,none⟩) (n+1) cap,.pointer y] w λe w'=>e=.returned (InB 11)/\Q w':=by
 have HC:=Ab hC;have HP:=Ab hP;have HK:=Ab hK;have e1:¬((n:Int)+1=0):=ζ;clear hC hP hK;go_enter func197,ntmps197;go_wp2_with fail;refine HC.u.mono ?_;rintro e w1⟨x,rfl,hq⟩;go_wp2_with fail;refine(HP.u x w1 hq.u).mono ?_;rintro e w2⟨rfl,q0⟩;have q4:=Ab q0;have c0:=HK.u w2 q0;clear q0;go_wp2;go_ret;exact⟨rfl,q4.u⟩
theorem XM(hc:c≠0)(hC:A1 AI 201 #[.pointer y] w λe w'=>∃x,e=.returned (.pointer x)/\Hid (Q1 x w'))(hP:∀x w1,Q1 x w1->A1 AI 243 #[PtB D,.slice (some ⟨g,o,none⟩) (n+1) cap] w1 λe w'=>e=.returned (.tuple #[PtB b,.string ⟨t.toArray⟩,InB 0])/\Q2 x w')(hK:∀x w2,Q2 x w2->CeB w2 b 0=some (InB 5))(hS:∀x w2,Q2 x w2->A1 AI 244 #[PtB b,.string ⟨t.toArray⟩] w2 λe w'=>e=.returned (.tuple #[InB 0,InB c])/\Q w'):
  A1 AI 197 #[PtB D,.slice (some ⟨g,o,none⟩) (n+1) cap,.pointer y] w λe w'=>e=.returned (InB c)/\Q w':=by
 have HC:=Ab hC;have HP:=Ab hP;have HK:=Ab hK;have HS:=Ab hS;have e1:¬((n:Int)+1=0):=ζ;have e2:((c:Int)!=0)=true:=by rw[bne_iff_ne];omega
 have e3:((c:Int)==0)=false:=by rw[beq_eq_false_iff_ne];omega
 clear hC hP hK hS hc;go_enter func197,ntmps197;go_wp2_with fail;refine HC.u.mono ?_;rintro e w1⟨x,rfl,hq⟩;go_wp2_with fail;refine(HP.u x w1 hq.u).mono ?_;rintro e w2⟨rfl,q0⟩;have q5:=Ab q0;have c0:=HK.u x w2 q0;clear q0;go_wp2_with fail;refine(HS.u x w2 q5.u).mono ?_;rintro e w3⟨rfl,q4⟩;have q6:=Ab q4;clear q4;go_wp2;go_ret;exact⟨rfl,q6.u⟩
theorem bL(hC:A1 AI 201 #[.pointer y] w λe w'=>∃x,e=.returned (.pointer x)/\Hid (Q1 x w'))(hP:∀x w1,Q1 x w1->A1 AI 243 #[PtB D,.slice (some ⟨g,o,none⟩) (n+1) cap] w1 λe w'=>e=.returned (.tuple #[PtB b,.string ⟨t.toArray⟩,InB 0])/\Q2 x w')(hK:∀x w2,Q2 x w2->CeB w2 b 0=some (InB 5))(hS:∀x w2,Q2 x w2->A1 AI 244 #[PtB b,.string ⟨t.toArray⟩] w2 λe w'=>e=.returned (.tuple #[InB i,InB 0])/\Q3 x w')(hN:∀x w3,Q3 x w3->A1 AI 245 #[.slice (some ⟨g,o,none⟩) (n+1) cap,InB i] w3 λe w'=>∃g2 c2,e=.returned (SlB g2 (n+1) c2)/\Q4 x g2 c2 w')(hU:∀x g2 c2 w4,Q4 x g2 c2 w4->A1 AI 205 #[PtB D,plV (SlB g2 (n+1) c2) b [] i,.pointer x] w4 λe w'=>e=.returned (.tuple #[])/\Q w'):
  A1 AI 197 #[PtB D,.slice (some ⟨g,o,none⟩) (n+1) cap,.pointer y] w λe w'=>e=.returned (InB 0)/\Q w':=by
 have HC:=Ab hC;have HP:=Ab hP;have HK:=Ab hK;have HS:=Ab hS;have HN:=Ab hN;have HU:=Ab hU;have e1:¬((n:Int)+1=0):=ζ;clear hC hP hK hS hN hU;go_enter func197,ntmps197;go_wp2_with fail;refine HC.u.mono ?_;rintro e w1⟨x,rfl,hq⟩;go_wp2_with fail;refine(HP.u x w1 hq.u).mono ?_;rintro e w2⟨rfl,q0⟩;have q7:=Ab q0;have c0:=HK.u x w2 q0;clear q0;go_wp2_with fail;refine(HS.u x w2 q7.u).mono ?_;rintro e w3⟨rfl,q4⟩;have q8:=Ab q4;clear q4 c0;go_wp2_with fail;refine(HN.u x w3 q8.u).mono ?_;rintro e w4⟨g2,c2,rfl,q5⟩;have q9:=Ab q5;clear q5;go_wp2_with fail;refine(HU.u x g2 c2 w4 q9.u).mono ?_;rintro e w5⟨rfl,q6⟩;have qb:=Ab q6;clear q6;go_wp2;go_ret;exact⟨rfl,qb.u⟩
end
def AR(D R:Nat)(iv:AT)(ch:Bool)(Tb:pN)(Mb:Nat->Prop)(wb:AS)(M:Nat->Prop)(js:List pW)(w:AS)(r:Except Nat (pL×List pW))(e:C1)(w':AS):Prop:=match r with
 |.ok (v',j)=>e=.returned (InB 0)/\∃wp jn T a M',JS w' D R wp jn iv ch Tb Mb wb T a v' M' (js++j)/\JEx M M' w w'
 |.error c=>e=.returned (InB c)/\∃wp jn T a v' M' q0,JS w' D R wp jn iv ch Tb Mb wb T a v' M' q0/\JEx M M' w w'
structure pZ(d x:Int)(B:Nat)(v:pL):Prop where
 gd:pU d x top 1 v
 dd:d<=500
 sz:pV top v<=B
theorem vV{d x:Int}:∀{f:Nat}{lv:Int}{v:pL},pU d x f lv v->pV f v<=1000000000000->vB f v
 |0,_,_,_,_=>trivial
 |f+1,lv,v,h,hs=>by
  have hk:=Iq (f:=f) (v:=v);have q0:∀i e,(AW v)[i]?=some e->vB f e:=λi e he=>by
   have h1:=ML (e:=.nil) h he;have h2:pV f (.nil:pL)=0:=by cases f<;>rfl
   exact vV (Et h he) ζ
  obtain⟨_,h⟩:=h;rcases h with⟨k,_,rfl⟩|⟨s,_,rfl⟩|⟨n,_,_,_,rfl⟩|⟨es,_,rfl⟩|⟨es,_,_,rfl⟩
  .trivial
  .trivial
  .trivial
  .refine⟨Ã hk hs,λe he=>?_⟩;obtain⟨i,hi,e'⟩:=Ĺ.1 he;exact q0 i e (show es[i]?=some e from ε)
  .refine⟨by rw[<-æ (f:=B3)];exact Ã hk hs,λp hp=>?_⟩;obtain⟨i,hi,e'⟩:=Ĺ.1 hp;exact q0 i p.2 (show(es.map B3)[i]?=some p.2 from ε)
def sK(p:List By):Prop:=(p.map λt=>t.length+1).sum<=100000/\∀t∈p,Ut t
theorem Ih:∀(p:List By),p.length<=(p.map λt=>t.length+1).sum/\∀t∈p,t.length<=(p.map λt=>t.length+1).sum
 |[]=>⟨Á _,λt h=>by cases h⟩
 |a::r=>by
  obtain⟨h1,h2⟩:=Ih r;grind
theorem sK.len{p:List By}(h:sK p):p.length<=100000:=Ã (Ih p).1 h.1
theorem sK.tok{p:List By}(h:sK p):∀t∈p,t.length<=100000:=λt ht=>Ã ((Ih p).2 t ht) h.1
def Frs(w:AS)(xv:pL)(x:Option Addr)(w1:AS):Prop:=Bl w w1/\Tr top w.1.size w1 (.pointer x) xv
theorem Frs.bel{w:AS}{xv:pL}{x:Option Addr}(h:Frs w xv x w1)(hb:Bl w1 w2):Frs w xv x w2:=
 ⟨h.1.trans (hb.mono h.1.size),h.2.move (Á _) λk _ hk=>hb.block k hk⟩
theorem WT{L f:Nat}{p:List Nat}{w:AS}{D i:Nat}{rv jn iv:AT}{ch:Bool}{Tb T m c:pN}{Mb M:Nat->Prop}{wb:AS}{js:List pW}{key:By}{pa px:Option Addr}{pl pc:Nat}{path:List By}(hL:f+1+p.length=L)(hJ:B7 L w D rv jn iv ch Tb Mb wb T M js)(hs:qE p T=some m)(hf:JA m i key)(hr:Dd m key)(hl:js.length<=1000000000)(hp:Bd w (GA L Tb wb M) (.slice pa pl pc) path)(hc:Ad f w (.pointer px) c)(q4:(pM f c).Nodup)(q0:∀k∈pM f c,¬M k/\k∉pM L T/\k≠D/\jn.ownBlock≠some k/\wb.1.size<=k):
  A1 AI 205 #[PtB D,plV (.slice pa pl pc) (qO m) key i,.pointer px] w λe w'=>e=.returned (.tuple #[])/\
   DC L D rv iv ch Tb Mb wb (qT p (Ct i key c m) T) M (js++[(1,path,.nil)]) w w':=by
 subst hL;exact Mn hJ hs hf hr hl hp hc q4 q0
theorem V8{L f:Nat}{p:List Nat}{w:AS}{D i:Nat}{rv jn iv:AT}{ch:Bool}{Tb T m c x:pN}{Mb M:Nat->Prop}{wb:AS}{js:List pW}{key:By}{pa px:Option Addr}{pl pc:Nat}{path:List By}(hL:f+1+p.length=L)(hJ:B7 L w D rv jn iv ch Tb Mb wb T M js)(hs:qE p T=some m)(hf:Bv m i key c)(hr:Dd m key)(hl:js.length<=1000000000)(hp:Bd w (GA L Tb wb M) (.slice pa pl pc) path)(q0:f<=top)(hx:Ad f w (.pointer px) x)(q5:(pM f x).Nodup)(q4:∀k∈pM f x,¬M k/\k∉pM L T/\k≠D/\jn.ownBlock≠some k/\wb.1.size<=k):
  A1 AI 160 #[PtB D,plV (.slice pa pl pc) (qO m) key i,.pointer px] w λe w'=>e=.returned (.tuple #[])/\
   DC L D rv iv ch Tb Mb wb (qT p (Cm i key x m) T) M (js++[(2,path,pT f c)]) w w':=by
 subst hL;exact fI hJ hs hf hr hl hp q0 hx q5 q4
theorem fH{L f:Nat}{p:List Nat}{w:AS}{D i:Nat}{rv jn iv:AT}{ch:Bool}{Tb T x:pN}{Mb M:Nat->Prop}{wb:AS}{js:List pW}{key:By}{pa px:Option Addr}{pl pc:Nat}{path:List By}{b g:Nat}{es:List (Lit×pN)}(hL:f+1+p.length=L)(hJ:B7 L w D rv jn iv ch Tb Mb wb T M js)(hs:qE p T=some (pS b g (.map es)))(hf:∀p∈es,p.1≠A3 key)(hr:Dd (pS b g (.map es)) key)(hl:js.length<=1000000000)(hp:Bd w (GA L Tb wb M) (.slice pa pl pc) path)(hx:Ad f w (.pointer px) x)(q4:(pM f x).Nodup)(q0:∀k∈pM f x,¬M k/\k∉pM L T/\k≠D/\jn.ownBlock≠some k/\wb.1.size<=k):
  A1 AI 160 #[PtB D,plV (.slice pa pl pc) b key i,.pointer px] w λe w'=>e=.returned (.tuple #[])/\
   DC L D rv iv ch Tb Mb wb (qT p (Ct i key x (pS b g (.map es))) T) M (js++[(1,path,.nil)]) w w':=by
 subst hL;exact YZ hJ hs hf hr hl hp hx q4 q0
section
variable{w w':AS}{D R:Nat}{wp:Option Addr}{jn iv:AT}{ch:Bool}{Tb T a:pN}{Mb M:Nat->Prop}{wb:AS}{v:pL}{js:List pW}
theorem JS.done{g:Nat}{v':pL}(h:DC (top+1) D (PtB R) iv ch Tb Mb wb T1 M js w w')(e:T1=pS R g (.slice [a1] []))(hv:pT top a1=v'):
  ∃wp jn T a M',JS w' D R wp jn iv ch Tb Mb wb T a v' M' js/\JEx M M' w w':=by
 obtain⟨jn',T',M',q1,q2,q3⟩:=h;rw[e]at q1;obtain⟨wp,a,hj⟩:=JS.of q2 q1;rw[hv]at hj;exact⟨wp,jn',T',a,M',hj,q3⟩
theorem JS.ok{g:Nat}{v':pL}{j:List pW}(h:DC (top+1) D (PtB R) iv ch Tb Mb wb T1 M (js++j) w w')(e:T1=pS R g (.slice [a1] []))(hv:pT top a1=v'):
  AR D R iv ch Tb Mb wb M js w (.ok (v',j)) (.returned (InB 0)) w':=⟨rfl,JS.done h e hv⟩
theorem JS.err{c:Nat}(h:JS w D R wp jn iv ch Tb Mb wb T a v M js)(hb:Bl w w'):AR D R iv ch Tb Mb wb M js w (.error c) (.returned (InB c)) w':=
 ⟨rfl,wp,jn,T,a,v,M,js,h.bel hb,(h.j.bel hb).2⟩
theorem JEx.below(h:Bl w w')(hM:∀k,M k->k<w.1.size)(k:JEx M M' w' w2):JEx M M' w w2:=
 ⟨k.os.trans h.os,k.tape.trans h.tape,k.output.trans h.output,Ã h.size k.size,λj hj=>⟨(k.kept j hj).1,(k.kept j hj).2.trans (h.block j (hM j hj))⟩⟩
theorem AR.below{js:List pW}{r:Except Nat (pL×List pW)}(h:Bl w w')(hM:∀k,M k->k<w.1.size)(k:AR D R iv ch Tb Mb wb M js w' r e w2):AR D R iv ch Tb Mb wb M js w r e w2:=by
 cases r with
 |ok vj=>
  obtain⟨rfl,wp,jn,T,a,M',h1,h2⟩:=k;exact⟨rfl,wp,jn,T,a,M',h1,JEx.below h hM h2⟩
 |error c=>
  obtain⟨rfl,wp,jn,T,a,v,M',q0,h1,h2⟩:=k;exact⟨rfl,wp,jn,T,a,v,M',q0,h1,JEx.below h hM h2⟩
theorem JS.new(h:JS w D R wp jn iv ch Tb Mb wb T a v M js){k:Nat}(hk:w.1.size<=k):¬M k/\k∉pM (top+1) T/\k≠D/\jn.ownBlock≠some k/\wb.1.size<=k:=
 ⟨λhm=>by have:=(h.j.low k hm).1;omega,λhm=>by have:=h.j.tr.lt k hm;omega,λe=>by have:=h.j.dlt;omega,λe=>by have:=h.j.jlt k e;omega,Ã h.j.up.1 hk⟩
theorem JS.node{d x:Int}{B f:Nat}{q:List Nat}{m:pN}{u:AT}(h:JS w D R wp jn iv ch Tb Mb wb T a v M js)(hg:pZ d x B v)(hq:f+1+q.length=top)(hs:qE q a=some m)(hu:Ad (f+1) w u m):
  f+1+(0::q).length=top+1/\qE (0::q) T=some m/\1000<=f/\(AM m).length<=B/\pU d x (f+1) (1+q.length) (pT (f+1) m)/\pV (f+1) (pT (f+1) m)<=B/\BD q v=some (pT (f+1) m):=by
 obtain⟨g,e⟩:=h.t.one;have hv:=h.t.str;have q0:BD q v=some (pT (f+1) m):=by
  rw[<-hv,<-hq];exact II (f:=f+1) (by rw[hq];exact h.t.sub) hs
 have q4:pU d x (f+1+q.length) 1 v:=by rw[hq];exact hg.gd
 have h1:=P1 q4 q0;have h2:=Hn h1;have h3:=hg.dd;have h4:=LM q4 q0;rw[hq]at h4;have h5:=Iq (f:=f) (v:=pT (f+1) m);rw[Es hu,æ]at h5;have h6:=hg.sz;have ht:=DN;refine⟨ω,?_,ζ,ζ,h1,ζ,q0⟩;rw[e];exact hs
theorem JS.value{g f:Nat}{q:List Nat}{m m':pN}{w0:AS}(h:JS w0 D R wp jn iv ch Tb Mb wb T a v M js)(e:T=pS R g (.slice [a] []))(hq:f+1+q.length=top)(hs:qE q a=some m):
  qT (0::q) m' T=pS R g (.slice [qT q m' a] [])/\pT top (qT q m' a)=AJ q (pT (f+1) m') v:=by
 refine⟨?_,?_⟩
 .rw[e,CM (c:=a) m' rfl];rfl
 .have hv:=h.t.str;have h1:=R7 (w:=w0) (p:=q) (f:=f+1) (u:=.pointer wp) (a:=a) (n:=m) m' (by rw[hq];exact h.t.sub) hs;rw[hq,hv]at h1;exact h1
end
theorem Lt{w:AS}{F:Nat->Prop}{d x:Int}{B:Nat}{xv:pL}{y:Option Addr}(h:Rep top F w (.pointer y) xv)(hx:pZ d x B xv)(hB:B<=1000000000):
  A1 AI 201 #[.pointer y] w λe w'=>∃x,e=.returned (.pointer x)/\Hid (Frs w xv x w'):=by
 refine(LJ top xv (vV hx.gd (by have:=hx.sz;omega)) F w _ h).mono ?_;rintro e w' ⟨p,rfl,hb,ht⟩;exact⟨some p,rfl,hb,ht⟩
theorem Frs.at{w:AS}{d x:Int}{B f:Nat}{xv:pL}{y:Option Addr}{D R:Nat}{wp:Option Addr}{jn iv:AT}{ch:Bool}{Tb T a:pN}{Mb M:Nat->Prop}{wb:AS}{v:pL}{js:List pW}(h:JS w D R wp jn iv ch Tb Mb wb T a v M js)(hf:Frs w xv y w1)(hx:pZ d x B xv)(h1:1000<=f)(h2:f<=top):
  ∃ax,Ad f w1 (.pointer y) ax/\pT f ax=xv/\pT top ax=xv/\(pM f ax).Nodup/\(∀k∈pM f ax,w.1.size<=k/\k<w1.1.size)/\∀k∈pM f ax,¬M k/\k∉pM (top+1) T/\k≠D/\jn.ownBlock≠some k/\wb.1.size<=k:=by
 obtain⟨_,ax,a1,a2,a3,a4⟩:=hf;obtain⟨b1,b2,b3⟩:=a1.fit (f:=f) (by rw[a2];exact CT hx.gd (by have:=hx.dd;omega)) h2;have hlt:=a1.lt;exact⟨ax,b1,b3.trans a2,a2,b2▸a3,ε,λk hk=>h.new (a4 k (b2▸hk))⟩
section
variable{w:AS}{D R:Nat}{wp:Option Addr}{jn iv:AT}{ch:Bool}{Tb T a:pN}{Mb M:Nat->Prop}{wb:AS}{v xv:pL}{js:List pW}{y:Option Addr}{F:Nat->Prop}{d x:Int}{B:Nat}
theorem OD{pa:Option Addr}{cap:Nat}(h:JS w D R wp jn iv ch Tb Mb wb T a v M js)(hx:pZ d x B xv)(hB:B<=1000000000)(hl:js.length<=1000000000)(hy:Rep top F w (.pointer y) xv):
  A1 AI 197 #[PtB D,.slice pa 0 cap,.pointer y] w λe w'=>AR D R iv ch Tb Mb wb M js w (.ok (xv,[(2,[],v)])) e w':=by
 obtain⟨g,eT⟩:=h.t.one;have hM:∀k,M k->k<w.1.size:=λk hk=>(h.j.low k hk).1;refine(bK (R:=R) (Q:=λw'=>AR D R iv ch Tb Mb wb M js w (.ok (xv,[(2,[],v)])) (.returned (InB 0)) w') (Lt hy hx hB) (λz w1 hq=>?_) (λz w1 hq=>?_)).mono ?_
 .exact (h.bel hq.1).t.db.c0
 .have h1:=h.bel hq.1;obtain⟨ax,b1,b2,q4,b3,b4,b5⟩:=Frs.at h hq hx (f:=top) (by have:=DN;omega) (Á _);have hp:=V8 (f:=top) (p:=[]) (i:=0) (key:=[]) (path:=[]) (pa:=none) (pl:=0) (pc:=0) (c:=a) (m:=T) (L:=top+1) rfl h1.j rfl (Å ⟨R,g,[a],eT,rfl⟩) (by rw[eT];exact⟨by rw[Cs];simp,φ⟩) hl (Å ε) (Á _) b1 b3 b5;have q0:qO T=R:=by rw[eT];rfl
  rw[q0]at hp;refine hp.mono λe w' ⟨rfl,he⟩=>?_;refine⟨rfl,AR.below hq.1 hM (JS.ok (T1:=qT [] (Cm 0 [] ax T) T) (g:=g) (a1:=ax) ?_ ?_ q4)⟩
  .have:=h.t.str;grind
  .rw[eT];rfl
 grind
theorem Sa{n i:Nat}{t:By}(h:Cc n t=.ok i):i<=n:=by
 unfold Cc at h;split at h
 .injection h with h;omega
 .split at h
  .cases h
  .split at h
   .cases h
   .injection h with h;omega
theorem K9{n c:Nat}{t:By}(h:Cc n t=.error c):c≠0:=by
 unfold Cc at h;split at h
 .cases h
 .split at h
  .injection h with h;omega
  .split at h
   .injection h with h;omega
   .cases h
theorem BQ{d:pL}{c:Nat}(h:Ag d s=.error c):c≠0:=by
 induction s generalizing d with
 |nil=>cases h
 |cons t r ih=>
  unfold Ag at h;split at h
  .exact ih h
  .rename_i c' hc;injection h with h;have:=Dn hc;omega
theorem DM{d:pL}{q:List Nat}(h:CN d s=some q):tF d s=q:=by unfold tF;rw[h];rfl
theorem Eo(s:List By)(t:By):BB (s++[t])=some (s,t):=by unfold BB;simp
theorem Aj.bel{w w':AS}(h:Aj w)(hb:Bl w w'):Aj w':=h.below (hb.mono h.ng)
theorem jG{g o n cap:Nat}{t:By}(h:JS w D R wp jn iv ch Tb Mb wb T a v M js)(hT:Aj w)(hv:pZ d x B v)(hx:pZ d x B xv)(hB:B<=900000000)(hl:js.length<=1000000000)(hy:Rep top F w (.pointer y) xv)(hn:n=s.length)(hc:n+1<=cap)(qj:cap<=Bs)(z0:GA (top+1) Tb wb M g)(hp:Dw w g o (s++[t]))(hok:sK (s++[t])):
  A1 AI 197 #[PtB D,.slice (some ⟨g,o,none⟩) (n+1) cap,.pointer y] w λe w'=>AR D R iv ch Tb Mb wb M js w (BV v (s++[t]) xv) e w':=by
 have hM:∀k,M k->k<w.1.size:=λk hk=>(h.j.low k hk).1;have p1:=hok.len;have p2:=hok.tok;have qo:∀u∈s,u.length<=1048576:=ε;have qe:t.length<=1048576:=ε;have hsl:s.length<=1048576:=ε;have q0:=Lt hy hx (B:=B) ζ;have qh:∀w1,Bl w w1->Dw w1 g o (s++[t]):=λw1 hb=>hp.move (hb.block g hp.1);have q9:∀{r:Except Nat (pL×List pW)}{e:C1}{w1 w2:AS},Bl w w1->AR D R iv ch Tb Mb wb M js w1 r e w2->AR D R iv ch Tb Mb wb M js w r e w2:=λhb k=>AR.below hb hM k;subst hn;unfold BV;rw[Eo];simp only;cases hf:Ag v s with
 |error c=>
  refine(bJ (t:=t) (BQ hf) (Q:=λw'=>Bl w w') q0 (λz w1 hq=>(LY (h.bel hq.1) (hT.bel hq.1).rng (qh w1 hq.1) rfl hc qj qo hsl hf).mono ?_)).mono ?_
  .rintro e w' ⟨rfl,hb⟩;exact⟨rfl,hq.1.trans (hb.mono hq.1.size)⟩
  .rintro e w' ⟨rfl,hb⟩;exact h.err hb
 |ok nv=>
  have qq:=h.t.str;have hf2:=hf;rw[<-qq]at hf2;obtain⟨f,q,m,u,e1,e2,e3,e4,e5⟩:=Db h.t.sub hf2;obtain⟨g',eT⟩:=h.t.one;obtain⟨n1,n2,n3,n4,n5,n6,n7⟩:=h.node hv e1 e2 e3;rw[qq]at e5;obtain⟨k1,k2⟩:=h.value (m':=m) eT e1 e2;obtain⟨ub,rfl,_⟩:=e3.ptr;have q6:∀z w1,Frs w xv z w1->A1 AI 243 #[PtB D,.slice (some ⟨g,o,none⟩) (s.length+1) cap] w1 λe w'=>e=.returned (.tuple #[PtB ub,.string ⟨t.toArray⟩,InB 0])/\Frs w xv z w':=λz w1 hq=>by
   refine(JW (h.bel hq.1) (hT.bel hq.1).rng (qh w1 hq.1) rfl hc qj qo hsl hf e2 (e3.bel hq.1) e5).mono ?_;rintro e w' ⟨rfl,hb⟩;exact⟨rfl,hq.bel hb⟩
  have qb:f<=top:=ζ;have qf:=e3;obtain⟨b,gg,xx,rfl,q8,qf⟩:=qf;injection q8 with q8;injection q8 with q8;injection q8 with q8 _ _;subst q8;simp only;rw[<-e4];rcases qf with⟨k,hk,_,rfl,hvb⟩|⟨nm,_,rfl,hvb,qz⟩|⟨st,_,rfl,hvb⟩|⟨al,sl,ps,rfl,hvb,ho,hs,ha⟩|⟨es,nn,DD,rfl,hvb,ho,z2⟩
  .refine (Ki (t:=t) (b:=ub) (k:=k) ζ ζ (Q1:=Frs w xv) (Q:=λw'=>Bl w w') q0 (λz w1 hq=>(q6 z w1 hq).mono ?_) (λw2 hb=>?_)).mono ?_
   .rintro e w' ⟨rfl,hb⟩;exact⟨rfl,hb.1⟩
   .exact (hb.cell (p:=⟨_,0,none⟩) hvb.lt).trans hvb.c0
   .rintro e w' ⟨rfl,hb⟩;exact h.err hb
  .refine (Ki (t:=t) (b:=ub) (k:=3) ζ ζ (Q1:=Frs w xv) (Q:=λw'=>Bl w w') q0 (λz w1 hq=>(q6 z w1 hq).mono ?_) (λw2 hb=>?_)).mono ?_
   .rintro e w' ⟨rfl,hb⟩;exact⟨rfl,hb.1⟩
   .exact (hb.cell (p:=⟨_,0,none⟩) hvb.lt).trans hvb.c0
   .rintro e w' ⟨rfl,hb⟩;exact h.err hb
  .refine (Ki (t:=t) (b:=ub) (k:=4) ζ ζ (Q1:=Frs w xv) (Q:=λw'=>Bl w w') q0 (λz w1 hq=>(q6 z w1 hq).mono ?_) (λw2 hb=>?_)).mono ?_
   .rintro e w' ⟨rfl,hb⟩;exact⟨rfl,hb.1⟩
   .exact (hb.cell (p:=⟨_,0,none⟩) hvb.lt).trans hvb.c0
   .rintro e w' ⟨rfl,hb⟩;exact h.err hb
  ·-- an array
   have qu:al.length<=B:=n4;have qm:ps.length=al.length:=ha.length;have q4:∀z w2,Frs w xv z w2->VB w2 ub 5 n0 [] sl (.map none)/\w2.ownsRow 0 80 1 sl ps.length ps:=λz w2 hq=>by
    refine⟨hvb.kept (hq.1.block _ hvb.lt),Am ho λg1 qt=>hq.1.block _ (Af ho g1 qt).1⟩
   cases hsl2:Cc al.length t with
   |error c=>
    have hr:CA v s t (pT (f+1) (pS ub gg (.slice al []))) xv=.error c:=by
     rw[Bn];unfold CA Ak;grind
    rw[hr];refine(XM (t:=t) (b:=ub) (K9 hsl2) (Q1:=Frs w xv) (Q2:=Frs w xv) (Q:=λw'=>Bl w w') q0 q6 (λz w2 hq=>(q4 z w2 hq).1.c0) (λz w2 hq=>?_)).mono ?_
    .obtain⟨c1,c2⟩:=q4 z w2 hq;refine(Ph qe (hT.bel hq.1).rng c1 c2).mono ?_;rintro e w' ⟨rfl,hb⟩;rw[qm,hsl2];exact⟨rfl,hq.1.trans (hb.mono hq.1.size)⟩
    .rintro e w' ⟨rfl,hb⟩;exact h.err hb
   |ok i=>
    have hi:=Sa hsl2;have hr:CA v s t (pT (f+1) (pS ub gg (.slice al []))) xv=.ok (AJ q (Dr i uE xv (pT (f+1) (pS ub gg (.slice al [])))) v,[(1,s++[B4 (i:Int)],.nil)]):=by
     rw[Bn];unfold CA Ak;simp only[æ,hsl2,DM e5]
    rw[hr];refine(bL (b:=ub) (i:=i) (Q1:=Frs w xv) (Q2:=Frs w xv) (Q3:=Frs w xv) (Q4:=λz g2 c2 w4=>∃w3,Frs w xv z w3/\Bl w3 w4/\w4.ownsRow w3.1.size 9 1 (SlB g2 (s.length+1) c2) (s.length+1) (OS (s++[B4 (i:Int)])))
     (Q:=λw'=>AR D R iv ch Tb Mb wb M js w (.ok (AJ q (Dr i uE xv (pT (f+1) (pS ub gg (.slice al [])))) v,[(1,s++[B4 (i:Int)],.nil)])) (.returned (InB 0)) w')
     q0 q6 (λz w2 hq=>(q4 z w2 hq).1.c0) (λz w2 hq=>?_) (λz w3 hq=>?_) (λz g2 c2 w4 hq=>?_)).mono ?_
    .obtain⟨c1,c2⟩:=q4 z w2 hq;refine(Ph qe (hT.bel hq.1).rng c1 c2).mono ?_;rintro e w' ⟨rfl,hb⟩;rw[qm,hsl2];exact⟨rfl,hq.bel hb⟩
    .refine (Rv (l:=s++[t]) (hT.bel hq.1) (qh w3 hq.1) φ ω ζ).mono ?_;grind
    .obtain⟨w3,qd,hb3,ho2⟩:=hq;have qw:=qd.1.trans (hb3.mono qd.1.size);obtain⟨g3,qr,ev,r1,r2,r3,r4⟩:=AP ho2 ζ;injection ev with ev _ ev3;injection ev with ev;injection ev with ev _ _;subst ev;subst ev3;have hg2:w3.1.size<=g2/\g2<w4.1.size:=⟨(Bt ho2 g2 rfl).2,(Bt ho2 g2 rfl).1⟩
     obtain⟨ax,b1,b2,qi,b3,b4,b5⟩:=Frs.at h qd hx n3 qb;have z3:=qd.1.size;obtain⟨hG,hE⟩:=h.grow qw (λk=>k=g2) ζ;have qg:=WT (i:=i) (key:=[]) (path:=s++[B4 (i:Int)]) (pa:=some ⟨g2,0,none⟩) (pl:=s.length+1) (pc:=c2) (m:=pS ub gg (.slice al [])) (c:=ax) (px:=z) n1 hG.j n2 (Å ⟨ub,gg,al,rfl,hi⟩) ⟨ζ,φ⟩ hl
      (À ⟨g2,0,c2,φ,ε,r2,⟨À rfl,Å (by have:=h.j.up.1;omega)⟩,hg2.2,ε⟩) (b1.bel hb3) b3 ε
     refine qg.mono ?_;rintro e w5⟨rfl,jn',T',M',q1,q2,q3⟩;refine⟨rfl,?_⟩;obtain⟨k1,k2⟩:=h.value (m':=Ct i [] ax (pS ub gg (.slice al []))) eT e1 e2;rw[R8 (Å ⟨_,_,_,rfl⟩),b2]at k2;rw[k1]at q1;obtain⟨qy,a',hj⟩:=JS.of q2 q1;rw[k2]at hj;exact⟨rfl,qy,jn',T',a',M',hj,hE.trans q3⟩
    grind
  ·-- an object
   have qu:es.length<=B:=by rw[<-æ (f:=B3)];exact n4
   have q4:∀z w2,Frs w xv z w2->CeB w2 ub 0=some (InB 6):=λz w2 hq=>(hvb.kept (hq.1.block _ hvb.lt)).c0;have q5:AQ (es.map λp=>(p.1,pT f p.2)):=by
    obtain⟨_,hh⟩:=n5;rw[Bc]at hh;rcases hh with⟨_,_,hh⟩|⟨_,_,hh⟩|⟨_,_,_,_,hh⟩|⟨_,_,hh⟩|⟨es',h1,h2,hh⟩
    .cases hh
    .cases hh
    .cases hh
    .cases hh
    .cases hh;exact⟨h1,ε⟩
   have qn:AQ es:=by
    refine⟨?_,λp hp=>q5.2 (p.1,pT f p.2) ε⟩;have:=q5.1;grind
   have q7:∀w1,Bl w w1->Bd w1 (GA (top+1) Tb wb M) (.slice (some ⟨g,o,none⟩) (s.length+1) cap) (s++[t]):=λw1 hb=>À ε;cases hh:B1 (.map (es.map λp=>(p.1,pT f p.2)):pL) (.string t)with
   |true=>
    obtain⟨p',qv,qk,hk2⟩:=SY (Sh q5.1 q5.2) q5.2 hh;obtain⟨p0,z1,rfl⟩:=Ò.1 qv;obtain⟨k0,c0⟩:=p0;simp only at qk hk2;subst qk;have hr:CA v s t (pT (f+1) (pS ub gg (.map es))) xv=.ok (AJ q (Dp 0 t xv (pT (f+1) (pS ub gg (.map es)))) v,[(2,s++[t],pT f c0)]):=by
     rw[Bc];unfold CA Ap;simp only[if_pos hh,DM e5,hk2]
    rw[hr];refine(Qv (Q1:=Frs w xv) (Q2:=Frs w xv) (Q:=λw'=>AR D R iv ch Tb Mb wb M js w (.ok (AJ q (Dp 0 t xv (pT (f+1) (pS ub gg (.map es)))) v,[(2,s++[t],pT f c0)])) (.returned (InB 0)) w') q0 q6 q4 (λz w2 hq=>?_)).mono ?_
    .obtain⟨ax,b1,b2,qi,b3,b4,b5⟩:=Frs.at h hq hx n3 qb;refine(V8 (i:=0) (key:=t) (m:=pS ub gg (.map es)) (c:=c0) n1 (h.bel hq.1).j n2 (À ε) ⟨ζ,qe⟩ hl (q7 w2 hq.1) qb b1 b3 b5).mono ?_;rintro e w' ⟨rfl,he⟩;obtain⟨k1,k2⟩:=h.value (m':=Cm 0 t ax (pS ub gg (.map es))) eT e1 e2;rw[R6 (À ⟨_,_,_,rfl⟩),b2]at k2;exact⟨rfl,q9 hq.1 (JS.ok he k1 k2)⟩
    grind
   |false=>
    have hr:CA v s t (pT (f+1) (pS ub gg (.map es))) xv=.ok (AJ q (Dr 0 t xv (pT (f+1) (pS ub gg (.map es)))) v,[(1,s++[t],.nil)]):=by
     rw[Bc];unfold CA Ap;simp only[hh,DM e5];rfl
    rw[hr];have hno:∀p∈es,p.1≠A3 t:=λp hp e=>by
     have h1:B1 (.map (es.map λp=>(p.1,pT f p.2)):pL) (.string t)=true:=è.2 ⟨_,Ò.2 ⟨p,hp,rfl⟩,by show p.1.sameKey _=true;rw[e];exact î (show CL (A3 t)from trivial)⟩;grind
    refine(Qv (Q1:=Frs w xv) (Q2:=Frs w xv) (Q:=λw'=>AR D R iv ch Tb Mb wb M js w (.ok (AJ q (Dr 0 t xv (pT (f+1) (pS ub gg (.map es)))) v,[(1,s++[t],.nil)])) (.returned (InB 0)) w') q0 q6 q4 (λz w2 hq=>?_)).mono ?_
    .obtain⟨ax,b1,b2,qi,b3,b4,b5⟩:=Frs.at h hq hx n3 qb;refine(fH (i:=0) (key:=t) (b:=ub) (g:=gg) (es:=es) n1 (h.bel hq.1).j n2 hno ⟨ζ,qe⟩ hl (q7 w2 hq.1) b1 b3 b5).mono ?_;rintro e w' ⟨rfl,he⟩;obtain⟨k1,k2⟩:=h.value (m':=Ct 0 t ax (pS ub gg (.map es))) eT e1 e2;rw[R8 (À ⟨_,_,_,rfl⟩),b2]at k2;exact⟨rfl,q9 hq.1 (JS.ok he k1 k2)⟩
    grind
theorem M9{p:List By}(h:JS w D R wp jn iv ch Tb Mb wb T a v M js)(hT:Aj w)(hv:pZ d x B v)(hx:pZ d x B xv)(hB:B<=900000000)(hl:js.length<=1000000000)(hy:Rep top F w (.pointer y) xv)(hp:Bd w (GA (top+1) Tb wb M) pv p)(hok:sK p):
  A1 AI 197 #[PtB D,pv,.pointer y] w λe w'=>AR D R iv ch Tb Mb wb M js w (BV v p xv) e w':=by
 rcases hp with⟨rfl,pa,c,rfl,_⟩|⟨g,o,cap,rfl,h1,h2,h3,h4⟩
 .exact OD h hx ζ hl hy
 .by_cases q4:p=[]
  .subst q4;exact OD h hx ζ hl hy
  .obtain⟨s,t,rfl⟩:∃s t,p=s++[t]:=⟨p.dropLast,p.getLast q4,(ë q4).symm⟩
   have q0:(s++[t]).length=s.length+1:=φ;rw[q0]at h1 |-;exact jG h hT hv hx hB hl hy rfl h1 h2 h3 h4 hok
end
abbrev opV(k:Nat)(pa:Option Addr)(pl pc:Nat)(fa:Option Addr)(fl fc:Nat)(y:Option Addr):AT:=.agg #[InB k,.slice pa pl pc,.slice fa fl fc,.pointer y]
def OpB(w:AS)(q k:Nat)(pa:Option Addr)(pl pc:Nat)(fa:Option Addr)(fl fc:Nat)(y:Option Addr):Prop:=w.1[q]?=some (.cells #[InB k,.slice pa pl pc,.slice fa fl fc,.pointer y] 178 (0,0))
section
variable{w:AS}{q k:Nat}{pa fa y:Option Addr}{pl pc fl fc:Nat}
theorem OpB.lt(h:OpB w q k pa pl pc fa fl fc y):q<w.1.size:=(È.1 h).1
theorem OpB.c0(h:OpB w q k pa pl pc fa fl fc y):CeB w q 0=some (InB k):=ck h
theorem OpB.c1(h:OpB w q k pa pl pc fa fl fc y):CeB w q 1=some (.slice pa pl pc):=ck h
theorem OpB.c2(h:OpB w q k pa pl pc fa fl fc y):CeB w q 2=some (.slice fa fl fc):=ck h
theorem OpB.c3(h:OpB w q k pa pl pc fa fl fc y):CeB w q 3=some (.pointer y):=ck h
theorem OpB.low{w':AS}(h:OpB w q k pa pl pc fa fl fc y)(hb:Bl w w'):OpB w' q k pa pl pc fa fl fc y:=(hb.block q h.lt).trans h
theorem Ep(w:AS)(k:Nat)(pa:Option Addr)(pl pc:Nat)(fa:Option Addr)(fl fc:Nat)(y:Option Addr):∃wa,Hid (wa=w.alloc (.cells #[InB k,.slice pa pl pc,.slice fa fl fc,.pointer y] 178))/\OpB wa w.1.size k pa pl pc fa fl fc y/\Bl w wa:=⟨_,rfl,Ê w _,(Â _ _).alloc (Á _) _⟩
end
section
variable{w:AS}{D k b i:Nat}{pa fa qa y:Option Addr}{pl pc fl fc ql qc c:Nat}{key:By}{Q:AS->Prop}
theorem Xy{Q:Nat->AS->Prop}(hA:∀w1,Bl w w1->A1 AI 197 #[PtB D,.slice pa pl pc,.pointer y] w1 λe w'=>∃c:Nat,e=.returned (InB c)/\Hid (Q c w')):
  A1 AI 151 #[PtB D,opV k pa pl pc fa fl fc y] w λe w'=>∃c:Nat,e=.returned (InB c)/\Q c w':=by
 have HA:=Ab hA;have q0:=Ab ((Â w.1.size w).alloc (Á _) (.cells #[InB k,.slice pa pl pc,.slice fa fl fc,.pointer y] 178));clear hA;go_enter func151,ntmps151;go_wp2_with fail;refine(HA.u _ q0.u).mono ?_;rintro e w2⟨c,rfl,hq⟩;go_wp2;go_ret;exact⟨c,rfl,hq.u⟩
theorem Qm:CB 152 #[PtB D,opV k pa 0 pc fa fl fc y] w (InB 11):=by
 have q0:=Ab ((Â w.1.size w).alloc (Á _) (.cells #[InB k,.slice pa 0 pc,.slice fa fl fc,.pointer y] 178));go_enter func152,ntmps152;go_wp2;go_ret;exact⟨rfl,q0.u⟩
theorem Qn(hl:pl≠0)(hc:c≠0)(hT:∀w1,Bl w w1->CB 198 #[PtB D,.slice pa pl pc] w1 (.tuple #[plZ,InB c])):
  CB 152 #[PtB D,opV k pa pl pc fa fl fc y] w (InB c):=by
 have HT:=Ab hT;obtain⟨wa,q5,hob,q0⟩:=Ep w k pa pl pc fa fl fc y;have q4:=Ab q0;have q6:=Ab hob;have hs:=q0.size;have e0:¬((pl:Int)=0):=ζ;have e2:((c:Int)!=0)=true:=by rw[bne_iff_ne];omega
 have e3:((c:Int)==0)=false:=by rw[beq_eq_false_iff_ne];omega
 have b1:=hob.c1;clear hT hob q0 hc hl;go_enter func152,ntmps152;go_wp2_with fail;rw[<-q5.u];go_wp2_with fail;refine(HT.u wa q4.u).mono ?_;rintro e w2⟨rfl,hb⟩;have hs2:=hb.size;have HB:=Ab (q4.u.trans (hb.mono ζ));clear hb b1;go_wp2;go_ret;exact⟨rfl,HB.u.alloc ζ _⟩
theorem Rr(hl:pl≠0)(hT:∀w1,Bl w w1->CB 198 #[PtB D,.slice pa pl pc] w1 (.tuple #[plV (.slice qa ql qc) b key i,InB 0]))(hR:∀w1,Bl w w1->A1 AI 199 #[PtB D,plV (.slice qa ql qc) b key i] w1 λe w'=>e=.returned (.tuple #[])/\Q w'):
  A1 AI 152 #[PtB D,opV k pa pl pc fa fl fc y] w λe w'=>e=.returned (InB 0)/\Q w':=by
 have HT:=Ab hT;have HR:=Ab hR;obtain⟨wa,q6,hob,q4⟩:=Ep w k pa pl pc fa fl fc y;have q5:=Ab q4;have hs:=q4.size;have e0:¬((pl:Int)=0):=ζ;have b1:=hob.c1;clear hT hR hob q4 hl;go_enter func152,ntmps152;go_wp2_with fail;rw[<-q6.u];go_wp2_with fail;refine(HT.u wa q5.u).mono ?_;rintro e w2⟨rfl,hb⟩;have hs2:=hb.size;have q0:Be (plW w2 qa ql qc b key i) w2.1.size (.slice qa ql qc) b key i:=Ê w2 _;have HB:=Ab ((q5.u.trans (hb.mono ζ)).alloc ζ (.cells #[.slice qa ql qc,PtB b,.string ⟨key.toArray⟩,InB i] 185));have e0:=q0.c0;have e1:=q0.c1;have e2:=q0.c2;have e3:=q0.c3;clear hb b1 q0;go_wp2_with fail;refine(HR.u _ HB.u).mono ?_;rintro e w3⟨rfl,hq⟩;have HQ:=Ab hq;clear hq;go_wp2;go_ret;exact⟨rfl,HQ.u⟩
theorem OK(hc:c≠0)(hT:∀w1,Bl w w1->CB 198 #[PtB D,.slice pa pl pc] w1 (.tuple #[plZ,InB c])):
  CB 153 #[PtB D,opV k pa pl pc fa fl fc y] w (InB c):=by
 have HT:=Ab hT;obtain⟨wa,q5,hob,q0⟩:=Ep w k pa pl pc fa fl fc y;have q4:=Ab q0;have hs:=q0.size;have e2:((c:Int)!=0)=true:=by rw[bne_iff_ne];omega
 have e3:((c:Int)==0)=false:=by rw[beq_eq_false_iff_ne];omega
 have b1:=hob.c1;clear hT hob q0 hc;go_enter func153,ntmps153;go_wp2_with fail;rw[<-q5.u];go_wp2_with fail;refine(HT.u wa q4.u).mono ?_;rintro e w2⟨rfl,hb⟩;have hs2:=hb.size;have HB:=Ab (q4.u.trans (hb.mono ζ));clear hb b1;go_wp2;go_ret;exact⟨rfl,HB.u.alloc ζ _⟩
theorem Ql{Q1:Option Addr->AS->Prop}(hT:∀w1,Bl w w1->CB 198 #[PtB D,.slice pa pl pc] w1 (.tuple #[plV (.slice qa ql qc) b key i,InB 0]))(hC:∀w1,Bl w w1->A1 AI 201 #[.pointer y] w1 λe w'=>∃x,e=.returned (.pointer x)/\Bl w1 w'/\Hid (Q1 x w'))(hS:∀x w1 w2,Q1 x w1->Bl w w1->Bl w1 w2->A1 AI 200 #[PtB D,plV (.slice qa ql qc) b key i,.pointer x] w2 λe w'=>e=.returned (.tuple #[])/\Q w'):
  A1 AI 153 #[PtB D,opV k pa pl pc fa fl fc y] w λe w'=>e=.returned (InB 0)/\Q w':=by
 have HT:=Ab hT;have HC:=Ab hC;have HS:=Ab hS;obtain⟨wa,qf,hob,q7⟩:=Ep w k pa pl pc fa fl fc y;have q8:=Ab q7;have qd:=Ab hob;have hs:=q7.size;have b1:=hob.c1;clear hT hC hS hob q7;go_enter func153,ntmps153;go_wp2_with fail;rw[<-qf.u];go_wp2_with fail;refine(HT.u wa q8.u).mono ?_;rintro e w2⟨rfl,hb⟩;have hs2:=hb.size;obtain⟨w3,q6⟩:∃w3,w3=w2.alloc (.cells #[.slice qa ql qc,PtB b,.string ⟨key.toArray⟩,InB i] 185):=⟨_,rfl⟩
 have q4:Be w3 w2.1.size (.slice qa ql qc) b key i:=by rw[q6];exact Ê w2 _
 have qg:w2.1.size<w3.1.size:=(È.1 q4).1;have q0:Bl w2 w3:=by rw[q6];exact(Â _ _).alloc (Á _) _
 have hB:=(q8.u.trans (hb.mono ζ)).trans (q0.mono ζ);have q5:OpB w3 w.1.size k pa pl pc fa fl fc y:=(qd.u.low hb).low q0;have qe:=Ab q4;have HB:=Ab hB;have q9:=Ab q6;have b3:=q5.c3;have e0:=q4.c0;have e1:=q4.c1;have e2:=q4.c2;have e3:=q4.c3;clear hb b1 q4 hB q5 q0 q6;go_wp2_with fail;rw[<-q9.u];clear q9;go_region_with (first
  |(go_at_call 201;refine(HC.u _ ?_).mono ?_;exact bx HB.u;rintro x w4⟨z,rfl,hb4,qh⟩;replace hb4:Bl w3 w4:=bx hb4;have p4:Be w4 w2.1.size (.slice qa ql qc) b key i:=(hb4.block _ qg).trans qe.u;have f0:=p4.c0;have f1:=p4.c1;have f2:=p4.c2;have f3:=p4.c3;have qb:=Ab hb4;clear hb4 p4)
  |(go_at_call 200;refine(HS.u z w4 _ qh.u (HB.u.trans (qb.u.mono HB.u.size)) ?_).mono ?_;exact⟨rfl,rfl,rfl,Á _,λ_ _=>rfl⟩;rintro x w5⟨rfl,hq⟩;have HQ:=Ab hq;clear hq))
 all_goals (
  go_wp2;go_ret;exact⟨rfl,HQ.u⟩)
end
