import Derived.Test.YtdpomdelmdofmaaGreatDoorP34
import Derived.Test.YtdpomdelmdofmaaGreatDoorP33
open Go renaming Value->AI,World->AS
open List renaming length_cons->AT,length_append->A3
open Go.Value renaming ownBlock->A1
open Go.Proofs.Tryz renaming prog->A4
set_option maxRecDepth 100000
set_option maxHeartbeats 8000000
namespace Go.Proofs.YtdpomdelmdofmaaGreatDoor
open Go.Proofs.Tryz Go.RowKit Go.Maps
variable{o:pW}{j:List pW}{f:Nat}{G:Nat->Prop}{kv pv fv vv:AI}
theorem Ra{E:Nat}{d x n:Int}{q:AI}{w:AS}(k:Int)(s t:ByteArray)(hk:1<k/\k<=9)(h:EB w E d x n (.pointer none) q):
  CB 39 #[PtB E,.agg #[InB k,.string s,.string t],AC 3 []] w (.bool true):=by
 have qf:=h.lt;have hb1:Bl w ((w.alloc (.cells #[InB k,.string s,.string t] 49)).alloc (.cells #[InB 3,InB 0,.string ⟨#[]⟩] 46)):=((Â _ _).alloc (Á _) _).alloc φ _;have qb:AN ((w.alloc (.cells #[InB k,.string s,.string t] 49)).alloc (.cells #[InB 3,InB 0,.string ⟨#[]⟩] 46)) (w.1.size+1) 3 []:=Ax _ _ _ φ;have qd:=h.low hb1;have e3:=qd.c3;have q7:=Ab hb1;have q6:=Ab qb;have q9:=Ab (λ(k:Nat) (w:AS)=>Ec k w);have k1:decide (k<1)=false:=decide_eq_false ζ;have k9:decide (9<k)=false:=decide_eq_false ζ;have k2:(k != 1)=true:=by rw[bne_iff_ne];omega
 clear h hb1 qb qd hk;unfold AC at q9 |-;go_enter func39,ntmps39;go_upto_region 4 with(fail)
 obtain⟨w3,q4⟩:∃w3,w3=((w.alloc (.cells #[InB k,.string s,.string t] 49)).alloc (.cells #[InB 3,InB 0,.string ⟨#[]⟩] 46)):=⟨_,rfl⟩
 have qg:w.1.size+1<w3.1.size:=by rw[q4];simp
 have q5:AN w3 (w.1.size+1) 3 []:=by rw[q4];exact q6.u
 have hb3:Bl w w3:=by rw[q4];exact q7.u
 rw[<-q4];have q8:=Ab hb3;have a0:=q5.c0;have a1:=q5.c1;have a2:=q5.c2;clear q4 e3 q5 hb3 q7 q6;go_region_with (go_at_call 38;refine(q9.u 3 _).mono ?_;rintro e w4⟨rfl,hb4⟩;have b0:=(hb4.cell (p:=⟨w.1.size+1,0,none⟩) (show w.1.size+1<w3.1.size from ζ)).trans a0;have b1:=(hb4.cell (p:=⟨w.1.size+1,1,none⟩) (show w.1.size+1<w3.1.size from ζ)).trans a1;have b2:=(hb4.cell (p:=⟨w.1.size+1,2,none⟩) (show w.1.size+1<w3.1.size from ζ)).trans a2);all_goals (
  have q0:Bl w3 w4:=bx hb4;have qe:=Ab q0;clear hb4 q0 b0 b1 b2;go_wp2;go_ret;exact⟨δ,q8.u.trans (qe.u.mono q8.u.size)⟩)
section
variable{E:Nat}{d x n:Int}{p:Addr}{w:AS}
theorem T6(s t:ByteArray)(h:EB w E d x n (.pointer (some p)) (.pointer none)):
  CB 39 #[PtB E,.agg #[InB 7,.string s,.string t],AC 3 []] w (.bool true):=by
 have qf:=h.lt;have hb1:Bl w ((w.alloc (.cells #[InB 7,.string s,.string t] 49)).alloc (.cells #[InB 3,InB 0,.string ⟨#[]⟩] 46)):=((Â _ _).alloc (Á _) _).alloc φ _;have qd:AN ((w.alloc (.cells #[InB 7,.string s,.string t] 49)).alloc (.cells #[InB 3,InB 0,.string ⟨#[]⟩] 46)) (w.1.size+1) 3 []:=Ax _ _ _ φ;have q6:=h.low hb1;have e3:=q6.c3;have e4:=q6.c4;have q8:=Ab hb1;have q7:=Ab qd;have qb:=Ab (λ(k:Nat) (w:AS)=>Ec k w);clear h hb1 qd q6;unfold AC at qb |-;go_enter func39,ntmps39;go_upto_region 24 with(fail)
 obtain⟨w3,q4⟩:∃w3,w3=((w.alloc (.cells #[InB 7,.string s,.string t] 49)).alloc (.cells #[InB 3,InB 0,.string ⟨#[]⟩] 46)):=⟨_,rfl⟩
 have qg:w.1.size+1<w3.1.size:=by rw[q4];simp
 have q5:AN w3 (w.1.size+1) 3 []:=by rw[q4];exact q7.u
 have hb3:Bl w w3:=by rw[q4];exact q8.u
 rw[<-q4];have q9:=Ab hb3;have a0:=q5.c0;have a1:=q5.c1;have a2:=q5.c2;clear q4 e3 e4 q5 hb3 q8 q7;go_region_with (go_at_call 38;refine(qb.u 3 _).mono ?_;rintro e w4⟨rfl,hb4⟩;have b0:=(hb4.cell (p:=⟨w.1.size+1,0,none⟩) (show w.1.size+1<w3.1.size from ζ)).trans a0;have b1:=(hb4.cell (p:=⟨w.1.size+1,1,none⟩) (show w.1.size+1<w3.1.size from ζ)).trans a1;have b2:=(hb4.cell (p:=⟨w.1.size+1,2,none⟩) (show w.1.size+1<w3.1.size from ζ)).trans a2);all_goals (
  have q0:Bl w3 w4:=bx hb4;have qe:=Ab q0;clear hb4 q0 b0 b1 b2;go_wp2;go_ret;exact⟨δ,q9.u.trans (qe.u.mono q9.u.size)⟩)
theorem V1{q:Addr}(s t:ByteArray)(T:By)(h:EB w E d x n (.pointer (some p)) (.pointer (some q)))(q4:∀W,Bl w W->CB 50 #[PtB E,.string ⟨T.toArray⟩,.pointer (some q),InB (-1)] W (.bool true)):
  CB 39 #[PtB E,.agg #[InB 7,.string s,.string t],AC 0 T] w (.bool true):=by
 have qf:=h.lt;obtain⟨w1,q5⟩:∃w1,w1=((w.alloc (.cells #[InB 7,.string s,.string t] 49)).alloc (.cells #[InB 0,InB 0,.string ⟨T.toArray⟩] 46)):=⟨_,rfl⟩
 have hb1:Bl w w1:=by rw[q5];exact((Â _ _).alloc (Á _) _).alloc φ _
 have q7:AN w1 (w.1.size+1) 0 T:=by rw[q5];exact Ax _ _ _ φ
 have qb:w1.1[w.1.size]?=some (.cells #[InB 7,.string s,.string t] 49 (0,0)):=by
  rw[q5];show((w.1.push _).push _)[w.1.size]?=_;simp[ŀ]
 have qg:w.1.size+2<=w1.1.size:=by rw[q5];simp
 have q8:=h.low hb1;have e3:=q8.c3;have e4:=q8.c4;have o0:w1.cell? ⟨w.1.size,0,none⟩=some (InB 7):=ck qb;have a0:=q7.c0;have a1:=q7.c1;have a2:=q7.c2;have q9:=Ab hb1;have q6:=Ab (λ(W:AS) (hW:Bl w1 W)=>q4 W (hb1.trans (hW.mono hb1.size)));have qe:=Ab q5;clear h hb1 q7 q8 q4 qb q5;unfold AC;go_enter func39,ntmps39;go_upto_region 1 with(fail)
 rw[<-qe.u];go_upto_region 25 with(fail)
 go_region_with (go_at_call 50;refine(q6.u _ ?_).mono ?_;exact⟨rfl,rfl,rfl,Á _,λ_ _=>rfl⟩;rintro e w4⟨rfl,hb4⟩);all_goals (
  have q0:Bl w1 w4:=bx hb4;have b0:=(q0.cell (p:=⟨w.1.size+1,0,none⟩) (show w.1.size+1<w1.1.size from ζ)).trans a0;have b1:=(q0.cell (p:=⟨w.1.size+1,1,none⟩) (show w.1.size+1<w1.1.size from ζ)).trans a1;have qd:=Ab q0;clear hb4 q0 a0 a1 a2;go_wp2;go_ret;exact⟨by first|kernel_rfl|simp,q9.u.trans (qd.u.mono q9.u.size)⟩)
end
theorem iE{d x:Int}(h:D5 d x 200000 o):pV (top-1) (AH o)<=7300000:=by
 obtain⟨h1,h2⟩:=h;have h3:=IU o.2.1;have hq:=Fm (AO o.2.1);have e1:pV (top-2) (Av (AO o.2.1))=(Ai (AO o.2.1)).length:=rfl;have hn:(Bb o.1).length<=7:=by
  unfold Bb
  repeat' split
  all_goals decide
 have q0:=Fm (Bb o.1);have e2:pV (top-2) (Av (Bb o.1))=(Ai (Bb o.1)).length:=rfl;have q1:(Ai (strOf (.string rS))).length=4:=rfl;have q2:(Ai (strOf (.string A8))).length=6:=rfl;have q3:(Ai (strOf (.string AL))).length=7:=rfl;have et:top-1=(top-2)+1:=rfl;unfold AH;split
 .rw[et,FH];grind
 .rename_i hne;have hf:=h2 hne;have g1:=CT (f:=1000) hf.gd (by have:=hf.dd;omega);have e3:pV (top-2) o.2.2=pV 1000 o.2.2:=F4 g1 η;have e4:pV top o.2.2=pV 1000 o.2.2:=F4 g1 η;have h5:=hf.sz;rw[et,FH];grind
theorem lL{d x:Int}(h0:1<=d)(hd:d<=500)(hi:∀i∈j,Iv d x 200000 i)(h:∀o∈j,D5 d x 200000 o)(hn:j.length<=1000000):Sz 8000000000000 (Ak (j.map AH)):=by
 refine⟨_,_,_,_,Wk h0 hd hi,?_⟩;have et:top=(top-1)+1:=rfl;rw[et,Ig];have h1:=LN (q:=λe=>pV (top-1) e+1) (m:=7300001) (l:=j.map AH) λe he=>by
  obtain⟨o,ho,rfl⟩:=Ò.1 he;have:=iE (h o ho);omega
 grind
theorem kZ{d x:Int}(h:∀o∈j,D5 d x 200000 o):∀i∈j,∀t∈i.2.1,t.length<=1000000:=λi hi t ht=>by
 have h1:=(h i hi).1;have h2:=(Ih i.2.1).2 t ht;omega
theorem Qk{d x:Int}(hd:d<=100):∀(l:List qH) (k:Nat) (v:pL) (j0:List pW) {v':pL}{j:List pW},pZ d x 200000 v->(∀o∈l,tY (d+2) x 200000 o)->Cn d k v j0 l=.ok (v',j) ->
  ∃j1,j=j0++j1/\C4 d x 200000 v j1 v'/\(∀o∈j1,D5 d x 200000 o)/\j1.length<=2*l.length/\pZ d x 200000 v'
 |[],k,v,j0,v',j,hv,_,h=>by
  unfold Cn at h;cases h;exact⟨[],φ,rfl,(λo ho=>by cases ho),Ď _,hv⟩
 |o::r,k,v,j0,v',j,hv,ho,h=>by
  unfold Cn at h;split at h
  .cases h
  .rename_i d1 j1 hdo;split at h
   .rename_i hm;obtain⟨f1,k1,k2⟩:=Gq hv (ho o â) hd hdo;obtain⟨f2,_⟩:=Ja f1 hd hm;have hc:=Xz hv (ho o â) hd hdo;obtain⟨j2,rfl,q0,k3,k4,k5⟩:=Qk hd r _ d1 _ (f2.mono (Ā _) ζ ζ) (λo h=>ho o (Ø _ h)) h;refine⟨j1++j2,ε,hc.append q0,λo ho=>(ó.1 ho).elim (k1 o) (k3 o),?_,k5⟩;grind
   .cases h
def Nf(f:Nat)(w:AS)(G:Nat->Prop)(kv pv fv vv:AI)(o:pW):Prop:=
 kv=.int .i64 o.1/\o.1<3/\Bd w G pv o.2.1/\fv=.slice none 0 0/\((o.1=1/\vv=.pointer none)\/(o.1≠1/\Rep f G w vv o.2.2))
theorem Nf.move{w w':AS}{G':Nat->Prop}(h:Nf f w G kv pv fv vv o)(hk:∀k,G k->k<w.1.size->w'.1[k]?=w.1[k]?/\G' k):Nf f w' G' kv pv fv vv o:=
 ⟨h.1,h.2.1,h.2.2.1.move hk,h.2.2.2.1,h.2.2.2.2.imp id λ⟨a,b⟩=>⟨a,b.move hk⟩⟩
theorem Rep.dn{d x:Int}{F:Nat->Prop}{w:AS}:∀{f g h:Nat}{lv:Int}{v:AI}{t:pL},Rep f F w v t->pU d x h lv t->d<lv+g->Rep g F w v t
 |0,_,_,_,_,_,hr,_,_=>hr.elim
 |_+1,_,0,_,_,_,_,hg,_=>hg.elim
 |_+1,0,_+1,_,_,_,_,hg,hd=>by
  have:=hg.1;omega
 |f+1,g+1,h+1,lv,v,t,hr,hg,hd=>by
  obtain⟨b,e,hF,hr⟩:=hr;refine⟨b,e,hF,?_⟩;rcases hr with⟨k,hk,e2,hv⟩|⟨n,e2,hv,hb⟩|⟨s,e2,hv⟩|⟨es,sl,ps,e2,hv,ho,hs,ha⟩|⟨es,m,n,D,e2,hv,hm,ho,hp⟩
  .grind
  .grind
  .grind
  .refine À (À (À (Å ⟨es,sl,ps,e2,hv,ho,hs,Al.mem (λa c hc hu=>?_) ha⟩)));obtain⟨_,hg⟩:=hg;rcases hg with⟨k,_,e3⟩|⟨s,_,e3⟩|⟨n,_,_,_,e3⟩|⟨es',he,e3⟩|⟨es',_,_,e3⟩
   .rw[e2]at e3;cases e3
   .rw[e2]at e3;cases e3
   .rw[e2]at e3;cases e3
   .rw[e2]at e3;injection e3 with e3 _;subst e3;exact Rep.dn hu (he c hc) ζ
   .rw[e2]at e3;cases e3
  .refine À (À (À (À ⟨es,m,n,D,e2,hv,hm,ho,Pt.mem (λa p hc hu=>?_) hp⟩)));obtain⟨_,hg⟩:=hg;rcases hg with⟨k,_,e3⟩|⟨s,_,e3⟩|⟨n,_,_,_,e3⟩|⟨es',_,e3⟩|⟨es',_,he,e3⟩
   .rw[e2]at e3;cases e3
   .rw[e2]at e3;cases e3
   .rw[e2]at e3;cases e3
   .rw[e2]at e3;cases e3
   .rw[e2]at e3;injection e3 with e3;subst e3;exact Rep.dn hu (he p hc).2 ζ
def Uo(k:Nat):Bool:=!(k==1)
theorem Wl{w:AS}(h:Jy w){k:Nat}(hk:k<3):3<w.1.size/\w.cell? ⟨3,k*3,none⟩=some (.string ⟨(Bb k).toArray⟩)/\w.cell? ⟨3,k*3+1,none⟩=some (.bool (Uo k))/\w.cell? ⟨3,k*3+2,none⟩=some (.bool false):=by
 obtain⟨t,fr,e⟩:=h;have hc:∀i,w.cell? ⟨3,i,none⟩=C8[i]?:=λi=>by simp[World.cell?,e]
 refine⟨ε,?_⟩;rw[hc,hc,hc]
 match k,hk with
 |0,_=>exact⟨rfl,rfl,rfl⟩
 |1,_=>exact⟨rfl,rfl,rfl⟩
 |2,_=>exact⟨rfl,rfl,rfl⟩
theorem StB.rep{w:AS}{B:Nat}{v:AI}{s:By}(h:StB w B v s){F:Nat->Prop}(hF:∀k,B<=k->F k):Rep (f+1) F w v (Av s):=by
 obtain⟨p,rfl,h1,h2⟩:=h;exact⟨p,rfl,hF p h1,ε⟩
theorem Xr{w:AS}(h:Nf (f+1) w G kv pv fv vv o)(hs:(o.2.1.map λt=>t.length+1).sum<=1000000)(hT:Aj w):
  Calls A4 122 #[.agg #[kv,pv,fv,vv]] w λe w'=>∃p,e=.returned (.pointer (some ⟨p,0,none⟩))/\w.1.size<=p/\Rep (f+2) (λq=>(G q/\q<w.1.size)\/w.1.size<=q) w' (.pointer (some ⟨p,0,none⟩)) (AH o)/\Bl w w':=by
 obtain⟨rfl,hk,ht,rfl,hv⟩:=h;obtain⟨pa,pl,pc,rfl⟩:=F1 ht;obtain⟨y,rfl⟩:∃y,vv=.pointer y:=by
  rcases hv with⟨_,rfl⟩|⟨_,hr⟩
  .grind
  .obtain⟨b,e,_⟩:=Rep.ptr hr;grind
 obtain⟨hl,c0,c1,c2⟩:=Wl hT.otab hk;refine(Xq (nm:=Bb o.1) (ps:=AO o.2.1) ζ hl c0 c1 c2 λw' hb=>Rh (ht.move λk hk q0=>⟨hb.block k q0,hk⟩).toks hs (hT.below (hb.mono hT.ng)).pesc).mono ?_;rintro e w' ⟨p,M,x12,x16,rfl,hvb,hp,hM,h1,h2,hb,ho⟩;refine⟨p,rfl,hp,?_,hb⟩;have r1:Rep (f+1) (λq=>(G q/\q<w.1.size)\/w.1.size<=q) w' x12 (Av (Bb o.1)):=h1.rep λk hk=>À hk;have r2:Rep (f+1) (λq=>(G q/\q<w.1.size)\/w.1.size<=q) w' x16 (Av (AO o.2.1)):=h2.rep λk hk=>À hk;rcases hv with⟨q4,e⟩|⟨q4,hr⟩
 .have en:Uo o.1=false:=by rw[q4];rfl
  rw[en]at ho;refine⟨p,rfl,À hp,À (À (À (À ⟨[(.string rS,Av (Bb o.1)),(.string A8,Av (AO o.2.1))],M,3,_,?_,hvb,À hM,ho,?_⟩)))⟩
  .unfold AH;grind
  .exact⟨⟨rfl,x12,rfl,r1⟩,⟨rfl,x16,rfl,r2⟩,trivial⟩
 .have en:Uo o.1=true:=by unfold Uo;grind
  rw[en]at ho;refine⟨p,rfl,À hp,À (À (À (À ⟨[(.string rS,Av (Bb o.1)),(.string A8,Av (AO o.2.1)),(.string AL,o.2.2)],M,3,_,?_,hvb,À hM,ho,?_⟩)))⟩
  .unfold AH;grind
  .exact⟨⟨rfl,x12,rfl,r1⟩,⟨rfl,x16,rfl,r2⟩,⟨rfl,.pointer y,rfl,hr.move λk hk q0=>⟨hb.block k q0,Å ⟨hk,q0⟩⟩⟩,trivial⟩
theorem aR(hf:0<f){w:AS}(h:Nf f w G kv pv fv vv o)(hs:(o.2.1.map λt=>t.length+1).sum<=1000000)(hT:Aj w):
  Calls A4 122 #[.agg #[kv,pv,fv,vv]] w λe w'=>∃p,e=.returned (.pointer (some ⟨p,0,none⟩))/\w.1.size<=p/\Rep (f+1) (λq=>(G q/\q<w.1.size)\/w.1.size<=q) w' (.pointer (some ⟨p,0,none⟩)) (AH o)/\Bl w w':=by
 cases f with
 |zero=>omega
 |succ f=>exact Xr h hs hT
theorem Rep.arr{F:Nat->Prop}{w:AS}{b:Nat}{es:List pL}{sl:AI}{ps:List AI}(hF:F b)(h:VB w b 5 n0 [] sl (.map none))(ho:w.ownsRow 0 80 1 sl ps.length ps)(hs:∀g,sl.ownBlock=some g->F g)(ha:Al (Rep f F w) ps es):Rep (f+1) F w (.pointer (some ⟨b,0,none⟩)) (Ak es):=
 ⟨b,rfl,hF,ε⟩
structure TxI(wb:AS)(B vb:Nat)(sl:AI)(n:Nat)(xs:List AI)(ov:AI)(f:Nat)(F:Nat->Prop)(d:pL)(A:AI->AI->AI->AI->AI->AI->AI->AI->AI->AI->AI->Act)(l:Array Bool)(a:Act)(w:AS):Prop where
 sz:l.size=12
 os:w.os=wb.os
 tape:w.tape=wb.tape
 output:w.output=wb.output
 size:wb.1.size<=w.1.size
 kept:∀k,k<wb.1.size->sl.ownBlock≠some k->k≠vb->w.1[k]?=wb.1[k]?
 row0:l.getD 8 false=false ->∀k,sl.ownBlock=some k->w.1[k]?=wb.1[k]?
 vb0:l.getD 11 false=false->w.1[vb]?=wb.1[vb]?
 d7:l.getD 7 false=true->l.getD 6 false=true/\l.getD 6 false=true
 d8:l.getD 8 false=true->l.getD 7 false=true/\l.getD 4 false=true
 d11:l.getD 11 false=true->l.getD 8 false=true/\l.getD 10 false=true
 ex:∃x14 x15 x16 x17 x18 x19 x20 x21 x22 x23 x24,a=A x14 x15 x16 x17 x18 x19 x20 x21 x22 x23 x24/\
  (l.getD 0 false=true->x14=.pointer (some ⟨vb,0,none⟩))/\(l.getD 1 false=true->x15=.pointer (some ⟨vb,0,none⟩))/\(l.getD 2 false=true->x16=.pointer (some ⟨vb,0,none⟩))/\(l.getD 3 false=true->x17=.pointer (some ⟨vb,5,none⟩))/\
  (l.getD 4 false=true->x18=sl)/\(l.getD 5 false=true->x19=ov)/\(l.getD 6 false=true->Hid (∃p,x20=.pointer p))/\(l.getD 6 false=true->l.getD 8 false=false->Rep f (λq=>F q\/wb.1.size<=q) w x20 d)/\
  (l.getD 7 false=true ->∃g,x21=.slice (some ⟨g,0,none⟩) 1 1/\wb.1.size<=g/\(l.getD 8 false=false->w.1[g]?=some (.cells #[x20] 80 (0,0))))/\
  (l.getD 8 false=true ->∃q cap,x22=.slice (some ⟨q,0,none⟩) (n+1) cap/\w.ownsRow B 80 1 x22 (n+1) (xs++[x20])/\(sl.ownBlock=some q\/wb.1.size<=q)/\Rep f (λk=>(F k\/wb.1.size<=k)/\k≠q) w x20 d)/\
  (l.getD 9 false=true->x23=.pointer (some ⟨vb,0,none⟩))/\(l.getD 10 false=true->x24=.pointer (some ⟨vb,5,none⟩))/\(l.getD 11 false=true->VB w vb 5 n0 [] x22 (.map none))
structure TxR(w:AS)(G:Nat->Prop)(f:Nat)(j:List pW)(k:Nat)(xs:List AI)(sl:AI)(wr:AS):Prop where
 bel:Bl w wr
 box:VB wr w.1.size 5 n0 [] sl (.map none)
 own:wr.ownsRow (w.1.size+1) 80 1 sl k xs
 al:Al (Rep f (λq=>(G q/\q<w.1.size)\/(w.1.size+1<=q/\sl.ownBlock≠some q)) wr) xs ((j.take k).map AH)
theorem Uj{w:AS}{ao:Option Addr}{N cap:Nat}(hf:0<f)(hN:N=j.length)(qu:0<N ->∃g,ao=some ⟨g,0,none⟩/\g<w.1.size/\N<=cap/\∀k (hk:k<j.length),∃pa pl pc y,Nf f w G (.int .i64 j[k].1) (.slice pa pl pc) (.slice none 0 0) (.pointer y) j[k]/\w.cell? ⟨g,k*4,none⟩=some (.int .i64 j[k].1)/\w.cell? ⟨g,k*4+1,none⟩=some (.slice pa pl pc)/\w.cell? ⟨g,k*4+2,none⟩=some (.slice none 0 0)/\w.cell? ⟨g,k*4+3,none⟩=some (.pointer y))(hp:∀o∈j,(o.2.1.map λt=>t.length+1).sum<=1000000)(hn:N<=10000000000000)(hl:(pP (f+2) (Ak (j.map AH))).length<=8796093022208)(hT:Aj w):
  CB 87 #[.slice ao N cap] w (.string ⟨(pP (f+2) (Ak (j.map AH))).toArray⟩):=by
 have zc:=hT.ng;obtain⟨W0,qv⟩:∃W0,W0=w.alloc (.cells #[.int .i64 5,.bool false,.string ⟨#[]⟩,.int .i64 0,.string ⟨#[]⟩,.slice none 0 0,.map none] 111):=⟨_,rfl⟩
 have za:Bl w W0:=by rw[qv];exact(Â _ _).alloc (Á _) _
 have H0:=Ab (show TxR w G (f+1) j 0 [] (.slice none 0 0) W0 from⟨za,by rw[qv];exact Ê w _,⟨rfl,Å ⟨rfl,rfl⟩⟩,by rw[List.take_zero];trivial⟩);have HN:=Ab hN;have qz:=Ab qu;have HP:=Ab hp;have HL:=Ab hl;have HT:=Ab hT;have zq:=Ab qv;clear hN qu hp hl hT qv za;go_enter func87,ntmps87;go_wp2_with fail;rw[<-zq.u];go_loopw [10] (λi wr=>∃(k:Nat) (xs:List AI) (sl:AI),k<=N/\i=.int .i64 k/\Hid (TxR w G (f+1) j k xs sl wr)) (λi _=>N-(intOf i).toNat)
 case atStart=>grind
 case round=>
  obtain⟨k,xs,sl,hk,rfl,HI⟩:=hrel;by_cases hlt:k<N
  .have z3:k<j.length:=by have:=HN.u;omega
   obtain⟨g,rfl,hg,zu,hc⟩:=qz.u ζ;obtain⟨pa,pl,pc,y,ho,c0,c1,c2,c3⟩:=hc k z3;obtain⟨kk,hkk⟩:∃kk,kk=j[k].1:=⟨_,rfl⟩
   rw[<-hkk]at ho c0;have qq:=HI.u.bel;have k0:=(qq.cell (p:=⟨g,k*4,none⟩) hg).trans c0;have k1:=(qq.cell (p:=⟨g,k*4+1,none⟩) hg).trans c1;have k2:=(qq.cell (p:=⟨g,k*4+2,none⟩) hg).trans c2;have k3:=(qq.cell (p:=⟨g,k*4+3,none⟩) hg).trans c3;have z5:(k:Int)<(N:Int):=ζ;have zz:(k:Int)<(cap:Int):=ζ;have ya:(N:Int)<=(cap:Int):=ζ;have HO:=Ab ho;clear hc c0 c1 c2 c3 hkk ho qq;go_upto_region 5 with(fail)
   obtain⟨wb,z8⟩:∃wb,wb=wr.alloc (.cells #[.int .i64 kk,.slice pa pl pc,.slice none 0 0,.pointer y] 178):=⟨_,rfl⟩
   rw[<-z8];have hI:=HI.u;have y5:=hI.bel.size;have y6:=hI.box.lt;have y7:wb.1.size=wr.1.size+1:=κ;have qw:Bl wr wb:=by rw[z8];exact(Â _ _).alloc (Á _) _
   have hob:wb.1[wr.1.size]?=some (.cells #[.int .i64 kk,.slice pa pl pc,.slice none 0 0,.pointer y] 178 (0,0)):=by rw[z8];exact Ê wr _
   have p0:wb.cell? ⟨wr.1.size,0,none⟩=some (.int .i64 kk):=κ;have p1:wb.cell? ⟨wr.1.size,1,none⟩=some (.slice pa pl pc):=κ;have p2:wb.cell? ⟨wr.1.size,2,none⟩=some (.slice none 0 0):=κ;have p3:wb.cell? ⟨wr.1.size,3,none⟩=some (.pointer y):=κ;have hvb:VB wb w.1.size 5 n0 [] sl (.map none):=hI.box.kept (qw.block _ y6);have zt:=hvb.c5;have qb:wb.ownsRow (w.1.size+1) 80 1 sl k xs:=Am hI.own λr hr=>qw.block r (Af hI.own r hr).1;have z6:∀r,sl.ownBlock=some r->r<wb.1.size:=λr hr=>(Af qb r hr).1;have qm:sl.ownBlock≠some w.1.size:=λe=>by have:=(Af qb _ e).2;omega
   have qr:sl.ownBlock≠some wr.1.size/\wr.1.size≠w.1.size:=⟨λe=>by have:=(Af hI.own _ e).1;omega,ζ⟩
   obtain⟨d,hd⟩:∃d,d=AH j[k]:=⟨_,rfl⟩
   have q6:Bl w wb:=hI.bel.trans (qw.mono y5);have zh:∀W:AS,(W.os=wb.os/\W.tape=wb.tape/\W.output=wb.output/\wb.1.size<=W.1.size/\∀q,q<wb.1.size->sl.ownBlock≠some q->q≠w.1.size->W.1[q]?=wb.1[q]?)->Calls A4 122 #[.agg #[.int .i64 kk,.slice pa pl pc,.slice none 0 0,.pointer y]] W λe w'=>∃p,e=.returned (.pointer (some ⟨p,0,none⟩))/\W.1.size<=p/\Rep (f+1) (λq=>((G q/\q<w.1.size)/\q<W.1.size)\/W.1.size<=q) w' (.pointer (some ⟨p,0,none⟩)) d/\Bl W w':=by
    rintro W⟨h1,h2,h3,h4,h5⟩;have zb:Bl w W:=⟨h1.trans q6.os,h2.trans q6.tape,h3.trans q6.output,Ã q6.size h4,λq hq=>(h5 q ζ (λe=>by have:=(Af qb q e).2;omega) ζ).trans (q6.block q hq)⟩
    rw[hd];exact aR hf (G:=λq=>G q/\q<w.1.size) (HO.u.move λq hq qy=>⟨zb.block q qy,hq,qy⟩) (HP.u _ (Ó z3)) (HT.u.below (zb.mono zc))
   obtain⟨i0,zx,h⟩:=à.1 Ve;injection h with hz0 h;injection h with hz2 hz3;obtain⟨z0,zg⟩:∃z0,z0=Value.pointer none:=⟨_,rfl⟩
   rw[<-zg]at hz0;have y8:z0.cells.size=1:=by rw[zg];rfl
   refine wp_region_any δ ?_;refine JG (TxI wb (w.1.size+1) w.1.size sl k xs (.agg #[.int .i64 kk,.slice pa pl pc,.slice none 0 0,.pointer y]) (f+1) (λq=>G q/\q<w.1.size) d (λx14 x15 x16 x17 x18 x19 x20 x21 x22 x23 x24=>{tmps:=#[.slice (some ⟨g,0,none⟩) N cap,undef,.string ⟨#[]⟩,.pointer (some ⟨w.1.size,0,none⟩),undef,.pointer (some ⟨wr.1.size,0,none⟩),.agg #[.int .i64 5,.bool false,.string ⟨#[]⟩,.int .i64 0,.string ⟨#[]⟩,.slice none 0 0,.map none],.pointer (some ⟨w.1.size,0,none⟩),.slice (some ⟨g,0,none⟩) N cap,.int .i64 N,.int .i64 k,.bool true,.pointer (some ⟨g,k*4,none⟩),.agg #[.int .i64 kk,.slice pa pl pc,.slice none 0 0,.pointer y],x14,x15,x16,x17,x18,x19,x20,x21,x22,x23,x24,u25,undef,undef],defers:=[] })) ?hs ?he _ _ _ _ ?hc ?h0
   case hc=>decide
   case h0=>
    refine⟨rfl,rfl,rfl,rfl,Á _,λ_ _ _ _=>rfl,λ_ _ _=>rfl,λ_=>rfl,?_,?_,?_,_,_,_,_,_,_,_,_,_,_,_,rfl,?_⟩;all_goals simp
   case he=>
    intro l a w1 hJ hr;have qi:=IL hJ.sz δ hr;obtain⟨hsz,os,tape,output,size,kept,row0,vb0,d7,d8,d11,x14,x15,x16,x17,x18,x19,x20,x21,x22,x23,x24,rfl,e0,e1,e2,e3,e4,e5,e6,qd,e7,e8,e9,q9,qe⟩:=hJ;obtain⟨q,q7,rfl,ho,hq,q4⟩:=e8 (qi 8 η);have hv:=qe (qi 11 η);have zk:=Ab os;have zn:=Ab tape;have zl:=Ab output;have zj:=Ab kept;have zo:=Ab hv;have zi:=Ab ho;have zm:=Ab q4;clear os tape output kept hv ho q4 row0 vb0 d7 d8 d11 e0 e1 e2 e3 e4 e5 e6 qd e7 e8 e9 q9 qe qi hr;go_wp2_with fail;refine⟨⟨k+1,xs++[x20],.slice (some ⟨q,0,none⟩) (k+1) q7,ζ,ψ,?_⟩,by simp[intOf];omega⟩;have os:=zk.u;have tape:=zn.u;have output:=zl.u;have kept:=zj.u;have hv:=zo.u;have ho:=zi.u;have q4:=zm.u;refine⟨⟨os.trans q6.os,tape.trans q6.tape,output.trans q6.output,ζ,λr hr=>(kept r ζ (λe=>by have:=(Af qb r e).2;omega) ζ).trans (q6.block r hr)⟩,hv,ho,?_⟩;rw[Í z3,ă,List.map_singleton,<-hd];refine Al.snoc (q4.move λr hr _=>⟨rfl,?_⟩) (hI.al.mono λa b hab=>hab.move λr hr ze=>?_)
    .rcases hr.1 with h|h
     .grind
     .refine À ⟨ζ,λe=>hr.2 (by simp[A1]at e;omega)⟩
    .have hne:sl.ownBlock≠some r/\r≠w.1.size:=by
      rcases hr with⟨_,h⟩|⟨h,h'⟩
      .exact⟨λe=>by have:=(Af qb r e).2;omega,ζ⟩
      grind
     refine⟨(kept r ζ hne.1 hne.2).trans (qw.block r ze),hr.imp id λ⟨h,_⟩=>⟨h,λe=>?_⟩⟩;have e2:q=r:=by simpa[A1]using e
     grind
   case hs=>
    intro l a w1 hJ i hi;obtain⟨hno,haft⟩:=DE hi;have zy:i<12:=by
     obtain⟨_,o,ho,_⟩:=mem_ready.1 hi;exact(È.1 ho).1
    obtain⟨hsz,os,tape,output,size,kept,row0,vb0,d7,d8,d11,x14,x15,x16,x17,x18,x19,x20,x21,x22,x23,x24,rfl,e0,e1,e2,e3,e4,e5,e6,qd,e7,e8,e9,q9,qe⟩:=hJ;clear hi;have hcase:i=0\/i=1\/i=2\/i=3\/i=4\/i=5\/i=6\/i=7\/i=8\/i=9\/i=10\/i=11:=ζ;rcases hcase with rfl|rfl|rfl|rfl|rfl|rfl|rfl|rfl|rfl|rfl|rfl|rfl
    .refine ç rfl λK hK=>?_;go_simp;refine hK _ _ ⟨by simp[hsz],os,tape,output,size,kept,λh=>row0 (unN h),λh=>vb0 (unN h),Au d7,Au d8,Au d11,_,_,_,_,_,_,_,_,_,_,_,rfl,λ_=>rfl,Ae e1,Ae e2,Ae e3,Ae e4,Ae e5,Ae e6,λh h'=>qd (unN h) ((Ú _ η).symm.trans h'),?_,Ae e8,Ae e9,Ae q9,Ae qe⟩;exact λh=>by
      obtain⟨g',h1,h2,h3⟩:=e7 (unN h);exact⟨g',h1,h2,λh'=>h3 ((Ú _ η).symm.trans h')⟩
    .refine ç rfl λK hK=>?_;go_simp;refine hK _ _ ⟨by simp[hsz],os,tape,output,size,kept,λh=>row0 (unN h),λh=>vb0 (unN h),Au d7,Au d8,Au d11,_,_,_,_,_,_,_,_,_,_,_,rfl,Ae e0,λ_=>rfl,Ae e2,Ae e3,Ae e4,Ae e5,Ae e6,λh h'=>qd (unN h) ((Ú _ η).symm.trans h'),?_,Ae e8,Ae e9,Ae q9,Ae qe⟩;exact λh=>by
      obtain⟨g',h1,h2,h3⟩:=e7 (unN h);exact⟨g',h1,h2,λh'=>h3 ((Ú _ η).symm.trans h')⟩
    .obtain rfl:=e1 (haft _ rfl ⟨1,.data⟩ φ rfl);refine ç rfl λK hK=>?_;go_simp;refine hK _ _ ⟨by simp[hsz],os,tape,output,size,kept,λh=>row0 (unN h),λh=>vb0 (unN h),Au d7,Au d8,Au d11,_,_,_,_,_,_,_,_,_,_,_,rfl,Ae e0,Ae e1,λ_=>rfl,Ae e3,Ae e4,Ae e5,Ae e6,λh h'=>qd (unN h) ((Ú _ η).symm.trans h'),?_,Ae e8,Ae e9,Ae q9,Ae qe⟩;exact λh=>by
      obtain⟨g',h1,h2,h3⟩:=e7 (unN h);exact⟨g',h1,h2,λh'=>h3 ((Ú _ η).symm.trans h')⟩
    .obtain rfl:=e2 (haft _ rfl ⟨2,.data⟩ φ rfl);refine ç rfl λK hK=>?_;go_simp;refine hK _ _ ⟨by simp[hsz],os,tape,output,size,kept,λh=>row0 (unN h),λh=>vb0 (unN h),Au d7,Au d8,Au d11,_,_,_,_,_,_,_,_,_,_,_,rfl,Ae e0,Ae e1,Ae e2,λ_=>rfl,Ae e4,Ae e5,Ae e6,λh h'=>qd (unN h) ((Ú _ η).symm.trans h'),?_,Ae e8,Ae e9,Ae q9,Ae qe⟩;exact λh=>by
      obtain⟨g',h1,h2,h3⟩:=e7 (unN h);exact⟨g',h1,h2,λh'=>h3 ((Ú _ η).symm.trans h')⟩
    .have yb:l.getD 4 false=false:=ε;have qj:l.getD 8 false=false:=by
      grind
     have qf:l.getD 11 false=false:=by
      grind
     have cv:w1.cell? ⟨w.1.size,5,none⟩=some sl:=(Ç (a:=⟨w.1.size,5,none⟩) (vb0 qf)).trans zt;obtain rfl:=e3 (haft _ rfl ⟨3,.data⟩ φ rfl);refine ç rfl λK hK=>?_;go_simp;refine hK _ _ ⟨by simp[hsz],os,tape,output,size,kept,ε,ε,Au d7,Au d8,Au d11,_,_,_,_,_,_,_,_,_,_,_,rfl,Ae e0,Ae e1,Ae e2,Ae e3,λ_=>rfl,Ae e5,Ae e6,λh h'=>qd (unN h) ζ,?_,Ae e8,Ae e9,Ae q9,Ae qe⟩;simp_all
    .have cq:=λi=>Ç (a:=⟨wr.1.size,i,none⟩) (kept wr.1.size ζ qr.1 qr.2);have q0:=(cq 0).trans p0;have q1:=(cq 1).trans p1;have q2:=(cq 2).trans p2;have q3:=(cq 3).trans p3;refine ç rfl λK hK=>?_;go_simp;refine hK _ _ ⟨by simp[hsz],os,tape,output,size,kept,λh=>row0 (unN h),λh=>vb0 (unN h),Au d7,Au d8,Au d11,_,_,_,_,_,_,_,_,_,_,_,rfl,Ae e0,Ae e1,Ae e2,Ae e3,Ae e4,λ_=>rfl,Ae e6,λh h'=>qd (unN h) ((Ú _ η).symm.trans h'),?_,Ae e8,Ae e9,Ae q9,Ae qe⟩;exact λh=>by
      obtain⟨g',h1,h2,h3⟩:=e7 (unN h);exact⟨g',h1,h2,λh'=>h3 ((Ú _ η).symm.trans h')⟩
    .have yc:l.getD 6 false=false:=ε;have y4:l.getD 7 false=false:=by
      grind
     have qj:l.getD 8 false=false:=by
      grind
     obtain rfl:=e5 (haft _ rfl ⟨5,.data⟩ φ rfl);refine ç rfl λK hK=>?_;go_simp;refine(zh w1 ε).mono ?_;rintro e w2⟨p,rfl,hpp,q4,hb2⟩;show K _ _;have kept:=λq h1 h2 h3=>(hb2.block q ζ).trans (kept q h1 h2 h3);have row0:=λh q hq=>(hb2.block q ε).trans (row0 h q hq);have vb0:=λh=>(hb2.block w.1.size ζ).trans (vb0 h);have os:=hb2.os.trans os;have tape:=hb2.tape.trans tape;have output:=hb2.output.trans output;have q5:=Ã size hb2.size;have q8:Rep (f+1) (λq=>(G q/\q<w.1.size)\/wb.1.size<=q) w2 (.pointer (some ⟨p,0,none⟩)) d:=q4.move ε;refine hK _ _ ⟨by simp[hsz],os,tape,output,q5,kept,λh=>row0 ζ,ε,λh=>absurd (unN h) ε,λh=>absurd (unN h) ε,Au d11,_,_,_,_,_,_,_,_,_,_,_,rfl,Ae e0,Ae e1,Ae e2,Ae e3,Ae e4,Ae e5,λ_=>⟨_,rfl⟩,λ_ _=>q8,λh=>absurd (unN h) ε,λh=>absurd (unN h) ε,Ae e9,Ae q9,λh=>absurd (d11 (unN h)).1 ε⟩
    .have y4:l.getD 7 false=false:=ε;have qj:l.getD 8 false=false:=by
      grind
     have d6:=haft _ rfl ⟨6,.data⟩ φ rfl;obtain⟨p,rfl⟩:=Aa (e6 d6);have q4:=qd d6 qj;refine ç rfl λK hK=>?_;go_simp;have hb2:Bl w1 (w1.alloc (.cells #[.pointer p] 80)):=(Â _ _).alloc (Á _) _;have kept:=λq h1 h2 h3=>(hb2.block q ζ).trans (kept q h1 h2 h3);have row0:=λh q hq=>(hb2.block q ε).trans (row0 h q hq);have vb0:=λh=>(hb2.block w.1.size ζ).trans (vb0 h);have q5:=Ã size hb2.size;have q8:Rep (f+1) (λq=>(G q/\q<w.1.size)\/wb.1.size<=q) (w1.alloc (.cells #[.pointer p] 80)) (.pointer p) d:=q4.move λq hq qy=>⟨hb2.block q qy,hq⟩
     refine hK _ _ ⟨by simp[hsz],os,tape,output,q5,kept,λh=>row0 ζ,ε,λ_=>⟨ú d6,ú d6⟩,Au d8,Au d11,_,_,_,_,_,_,_,_,_,_,_,rfl,Ae e0,Ae e1,Ae e2,Ae e3,Ae e4,Ae e5,Ae e6,λ_ _=>q8,λ_=>⟨_,rfl,ζ,λ_=>Ê w1 _⟩,λh=>absurd (unN h) ε,Ae e9,Ae q9,λh=>absurd (d11 (unN h)).1 ε⟩
    .have z1:=haft _ rfl ⟨7,.data⟩ φ rfl;have z9:=haft _ rfl ⟨4,.data⟩ φ rfl;have qj:l.getD 8 false=false:=ε;have qf:l.getD 11 false=false:=by
      grind
     obtain rfl:=e4 z9;obtain⟨g1,rfl,zw,z2⟩:=e7 z1;have z2:=z2 qj;have d6:=(d7 z1).1;have q4:=qd d6 qj;obtain⟨p,rfl⟩:=Aa (e6 d6);have qh:w1.ownsRow (w.1.size+1) 80 1 x18 k xs:=Am qb (row0 qj);refine ç rfl λK hK=>?_;refine ġ (w:=w1) rfl (.tmp 18) (.tmp 21) 106 rfl (w.1.size+1) 80 i0 z0 1 8 underlying106 zx hz0 hz2 hz3 y8 η x18 k xs rfl qh ⟨g1,0,none⟩ 1 1 [.pointer p] rfl rfl (Ö (cs:=#[.pointer p]) (t:=80) (fr:=(0,0)) z2) (by simp[Value.oneCell']) η (by unfold maxLen;omega) ζ ζ w1.1.size rfl ?_;intro q q7 w2 ho qt y9 y3;have qg:∀r,x18.ownBlock≠some r->r<w1.1.size->w2.1[r]?=w1.1[r]?:=λr h1 h2=>qt.block r h2 (λe=>h1 e.symm);have kept:=λr h1 h2 h3=>(qg r h2 ζ).trans (kept r h1 h2 h3);have vb0:=λh=>(qg w.1.size qm ζ).trans (vb0 h);have os:=qt.os.trans os;have tape:=qt.tape.trans tape;have output:=qt.output.trans output;have q5:=Ã size qt.size;have hq:x18.ownBlock=some q\/wb.1.size<=q:=ε;have q8:Rep (f+1) (λr=>((G r/\r<w.1.size)\/wb.1.size<=r)/\r≠q) w2 (.pointer p) d:=q4.move λr hr ze=>by
      have hne:x18.ownBlock≠some r:=λe=>by have:=z6 r e;have:=(Af qh r e).2;omega
      grind
     refine hK _ _ ⟨by simp[hsz],os,tape,output,q5,kept,(λh=>by rw[P0 hsz 8 8 η,if_pos rfl]at h;cases h),ε,Au d7,λ_=>⟨ú z1,ú z9⟩,Au d11,_,_,_,_,_,_,_,_,_,_,_,rfl,Ae e0,Ae e1,Ae e2,Ae e3,Ae e4,Ae e5,λ_=>⟨_,rfl⟩,(λ_ h=>by rw[P0 hsz 8 8 η,if_pos rfl]at h;cases h),λ_=>⟨g1,rfl,zw,(λh=>ε)⟩,ε,Ae e9,Ae q9,λh=>absurd (unN h) ε⟩
    .obtain rfl:=e0 (haft _ rfl ⟨0,.data⟩ φ rfl);refine ç rfl λK hK=>?_;go_simp;refine hK _ _ ⟨by simp[hsz],os,tape,output,size,kept,λh=>row0 (unN h),λh=>vb0 (unN h),Au d7,Au d8,Au d11,_,_,_,_,_,_,_,_,_,_,_,rfl,Ae e0,Ae e1,Ae e2,Ae e3,Ae e4,Ae e5,Ae e6,λh h'=>qd (unN h) ((Ú _ η).symm.trans h'),?_,Ae e8,λ_=>rfl,Ae q9,Ae qe⟩;exact λh=>by
      obtain⟨g',h1,h2,h3⟩:=e7 (unN h);exact⟨g',h1,h2,λh'=>h3 ((Ú _ η).symm.trans h')⟩
    .obtain rfl:=e9 (haft _ rfl ⟨9,.data⟩ φ rfl);refine ç rfl λK hK=>?_;go_simp;refine hK _ _ ⟨by simp[hsz],os,tape,output,size,kept,λh=>row0 (unN h),ε,Au d7,Au d8,Au d11,_,_,_,_,_,_,_,_,_,_,_,rfl,Ae e0,Ae e1,Ae e2,Ae e3,Ae e4,Ae e5,Ae e6,λh h'=>qd (unN h) ((Ú _ η).symm.trans h'),?_,Ae e8,Ae e9,λ_=>rfl,Ae qe⟩;exact λh=>by
      obtain⟨g',h1,h2,h3⟩:=e7 (unN h);exact⟨g',h1,h2,λh'=>h3 ((Ú _ η).symm.trans h')⟩
    .have qo:=haft _ rfl ⟨8,.data⟩ φ rfl;have qn:=haft _ rfl ⟨10,.data⟩ φ rfl;have qf:l.getD 11 false=false:=ε;obtain⟨q,q7,rfl,ho,hq,q4⟩:=e8 qo;obtain rfl:=q9 qn;have zr:sl=x18:=(e4 (d8 qo).2).symm;subst zr;have z7:VB w1 w.1.size 5 n0 [] sl (.map none):=(vb0 qf).trans hvb;have cv:=z7.c5;have zv:w1.frozen? ⟨w.1.size,5,none⟩=false:=by simp[World.frozen?,show w1.1[w.1.size]?=_ from z7]
     refine ç rfl λK hK=>?_;go_simp;have qk:∀r,r≠w.1.size->(w1.setCell ⟨w.1.size,5,none⟩ (.slice (some ⟨q,0,none⟩) (k+1) q7)).1[r]?=w1.1[r]?:=λr hr=>Æ _ _ _ _ hr;have yd:q≠w.1.size:=ε;have kept:=λr h1 h2 h3=>(qk r h3).trans (kept r h1 h2 h3);have row0:l.getD 8 false=false ->∀r,sl.ownBlock=some r->(w1.setCell ⟨w.1.size,5,none⟩ (.slice (some ⟨q,0,none⟩) (k+1) q7)).1[r]?=wb.1[r]?:=ε;have q5:wb.1.size<=(w1.setCell ⟨w.1.size,5,none⟩ (.slice (some ⟨q,0,none⟩) (k+1) q7)).1.size:=ε;have ho':=Am ho (w':=w1.setCell ⟨w.1.size,5,none⟩ (.slice (some ⟨q,0,none⟩) (k+1) q7)) (λr hr=>qk r (by simp[A1]at hr;omega));have q8:=q4.move (w':=w1.setCell ⟨w.1.size,5,none⟩ (.slice (some ⟨q,0,none⟩) (k+1) q7)) λr hr _=>⟨qk r ζ,hr⟩
     refine hK _ _ ⟨by simp[hsz],os,tape,output,q5,kept,λh=>row0 (unN h),(λh=>by rw[P0 hsz 11 11 η,if_pos rfl]at h;cases h),Au d7,Au d8,λ_=>⟨ú qo,ú qn⟩,_,_,_,_,_,_,_,_,_,_,_,rfl,Ae e0,Ae e1,Ae e2,Ae e3,Ae e4,Ae e5,Ae e6,λ_ h=>absurd qo (by rw[(Ú _ η).symm.trans h];decide),(λh=>(e7 ε).imp λg' ⟨h1,h2,_⟩=>⟨h1,h2,λh'=>absurd qo (by rw[(Ú _ η).symm.trans h'];decide)⟩),ε,Ae e9,Ae q9,λ_=>z7.set5 _⟩
  .obtain rfl:k=N:=ζ;have hI:=HI.u;have z4:k=j.length:=HN.u;have hal:=hI.al;rw[Ï ζ]at hal;have zf:xs.length=k:=by have:=hal.length;grind
   have q4:Rep (f+2) (λ_=>True) wr (.pointer (some ⟨w.1.size,0,none⟩)) (Ak (j.map AH)):=Rep.arr trivial hI.box (by rw[zf];exact JY hI.own (Ď _)) (λ_ _=>trivial) (hal.mono λa b hab=>hab.move ε);have HC:=Ab (EC q4 (HT.u.below (hI.bel.mono zc)) HL.u);have HB:=Ab hI.bel;have z5:¬(k:Int)<(k:Int):=ζ;clear hI z4 hal zf q4;go_wp2_with fail;refine HC.u.mono ?_;rintro e w2⟨rfl,hb2⟩;go_wp2_with fail;go_ret;exact⟨rfl,HB.u.trans (hb2.mono HB.u.size)⟩
theorem EN.at{w:AS}{G:Nat->Prop}:∀{xs:List AI}{j:List pW},EN w G xs j ->∀k (hk:k<j.length),∃(h:k*4+3<xs.length),Ic w G (xs[k*4]'ζ) (xs[k*4+1]'ζ) (xs[k*4+2]'ζ) xs[k*4+3] j[k]
 |[],[],_,_,hk=>absurd hk φ
 |[],_::_,h,_,_=>h.elim
 |_::_::_::_::_,_::_,⟨a,_⟩,0,_=>⟨φ,a⟩
 |_::_::_::_::r,_::s,⟨_,b⟩,k+1,hk=>by
  obtain⟨h1,h2⟩:=EN.at b k ε;grind
theorem mI{w:AS}{B e n cap:Nat}{ao:Option Addr}{xs:List AI}(h:w.ownsRow B e 4 (.slice ao n cap) n xs)(hp:0<n):n<=cap:=by
 rcases h.2 with⟨_,h0⟩|⟨g,q0,cur,h1,hB,h3,h4,_⟩
 .omega
 grind
theorem vY:∀l:List By,l.length<=(Bp l).length
 |[]=>φ
 |a::l=>by
  have h:=vY l;grind [Bp,AT,A3]
theorem wQ(l:List By):l.length<=(Ah l).length+1:=by
 cases l with
 |nil=>simp
 |cons a r=>
  have h:=vY r;grind [Ah,AT,A3]
theorem Y2(j:List pW):j.length<=(Dq j).length:=by
 have h:=wQ ((j.map AH).map (pP (top-1)));rw[æ,æ]at h;show _<=(pP (top-1+1) (Ak (j.map AH))).length;grind [List.length_map,BH,AT]
theorem YA{w:AS}{iv:AI}(h:LB w G iv (some j))(hT:Aj w):
  CB 87 #[iv] w (.string ⟨(Dq j).toArray⟩):=by
 obtain⟨⟨xs,ho,hG,hr⟩,hl,hok⟩:=h;obtain⟨ao,cap,g,rfl,hc⟩:=F7 ho;have q5:j.length<=10000000000000:=by
  have h1:j.length<=(Dq j).length:=Y2 j;omega
 refine Uj (f:=top-2) (G:=G) (by unfold top;omega) rfl (λhp=>?_) (λo ho=>(hok o ho).1) q5 hl hT;obtain⟨e1,e2,_,e3⟩:=hc hp;obtain⟨_,hb⟩:=Bt ho g e2;refine⟨g,e1,(Bt ho g e2).1,mI ho hp,λk hk=>?_⟩;obtain⟨hx,q0,q1,q2,q3,q4⟩:=hr.at k hk;obtain⟨pa,pl,pc,q6⟩:=F1 q2;have hz:∃y,xs[k*4+3]=.pointer y:=by
  rcases q4 with⟨_,e⟩|⟨_,hr⟩
  .grind
  .obtain⟨b,e,_⟩:=Rep.ptr hr;grind
 obtain⟨y,hy⟩:=hz;have c0:=e3 (k*4) ζ;have c1:=e3 (k*4+1) ζ;have c2:=e3 (k*4+2) ζ;have c3:=e3 (k*4+3) ζ;refine⟨pa,pl,pc,y,⟨rfl,q1,q6▸q2,rfl,q4.imp ε λ⟨a,b⟩=>⟨a,?_⟩⟩,c0.trans (by rw[q0]),ε,c2.trans (by rw[q3]),c3.trans (by rw[hy])⟩;obtain⟨d,x,g1,g2⟩:=(hok _ (Ó hk)).2 a;rw[<-hy];exact Rep.dn b g1 (by unfold top;omega)
theorem WR:LA:=by
 intro S d e n p v F w hS hD hT;obtain⟨D,R,wp,rfl,qe⟩:=hD;obtain⟨T,a,iv,h1,h2,h3⟩:=qe.ex;have q0:Bl w (w.alloc (.cells #[InB 0,InB 0,.string ⟨#[]⟩] 46)):=(Â _ _).alloc (Á _) _;have c3:=(hS.low q0).c3;have qb:=Ab (h1.db.kept (q0.block D h1.db.lt));have qf:=Ab (AB.new w);have qg:=Ab q0;have hsz:(w.alloc (.cells #[InB 0,InB 0,.string ⟨#[]⟩] 46)).1.size=w.1.size+1:=φ;obtain⟨G,hG⟩:∃G:Nat->Prop,G=λk=>F k/\k≠D/\k∉pM (top+1) T:=⟨_,rfl⟩
 rw[<-hG]at h3;have qh:=Ab (h3.move (w':=w.alloc (.cells #[InB 0,InB 0,.string ⟨#[]⟩] 46)) (G':=G) λk hk q9=>⟨q0.block k q9,hk⟩);have HT:=Ab (hT.below (q0.mono hT.ng));obtain⟨b,hb⟩:∃b,b=v.2.isSome:=⟨_,rfl⟩
 rw[<-hb]at qb;obtain⟨fs,qk⟩:∃a b n,iv=.slice a b n:=by
  cases hv:v.2 with
  |none=>rw[hv]at h3;exact⟨_,_,_,h3⟩
  |some j=>
   rw[hv]at h3;obtain⟨⟨xs,ho,_⟩,_⟩:=h3;obtain⟨ao,cap,g,e,_⟩:=F7 ho;grind
 obtain⟨fl,fc,rfl⟩:=qk;clear hS hT h1 h2 h3 q0 qe hG;obtain⟨RR,q8⟩:∃RR,RR=uU v:=⟨_,rfl⟩
 rw[<-q8];have qd:=Ab q8;have HB:=Ab hb;clear q8 hb;go_enter func61,ntmps61;go_wp2_with fail;generalize w.alloc (.cells #[InB 0,InB 0,.string ⟨#[]⟩] 46)=wa at*;refine(Qt qb.u).mono ?_;rintro x w2⟨rfl,hb2⟩;have q5:=Ab (qg.u.trans (hb2.mono ζ));have A2:=Ab (qf.u.low hb2);have q4:=Ab (qh.u.move (w':=w2) (G':=G) λk hk q9=>⟨hb2.block k q9,hk⟩);have qi:=Ab (HT.u.below (hb2.mono HT.u.ng));clear hb2 c3;cases b with
 |false=>
  have hn:v.2=none:=by
   have:=HB.u;simp_all
  have q7:=Ab (show RR=(3,0,[]) by rw[qd.u];unfold uU;rw[hn]);clear hn;go_wp2_with fail;refine(BL 3 w2).mono ?_;rintro x w3⟨rfl,hb3⟩;have a3:=A2.u.low hb3;have g0:=a3.c0;have g1:=a3.c1;have g2:=a3.c2;have z:=a3.fz;have q6:=Ab (q5.u.trans (hb3.mono q5.u.size));clear a3 hb3;unfold AC;go_wp2_with fail;refine Ì (v:=Ay (3,0,[])) (by simp[results,results61,go_sem,Ay,g0,g1,g2]) rfl ?_;rw[q7.u];exact⟨rfl,(Bo.of3 w.1.size w3 _ _ _).below q6.u (Á _)⟩
 |true=>
  obtain⟨j,hj⟩:∃j,v.2=some j:=by
   have:=HB.u;grind [uU,results,results61]
  have q7:=Ab (show RR=(0,0,Dq j) by rw[qd.u];unfold uU;rw[hj]);rw[hj]at q4;have qj:=Ab (YA q4.u qi.u);clear hj;go_wp2_with fail;refine qj.u.mono ?_;rintro x w3⟨rfl,hb3⟩;have a3:=A2.u.low hb3;have g0:=a3.c0;have g1:=a3.c1;have g2:=a3.c2;have z:=a3.fz;have q6:=Ab (q5.u.trans (hb3.mono q5.u.size));clear a3 hb3;go_wp2_with fail;refine Ì (v:=Ay (0,0,Dq j)) (by simp[results,results61,go_sem,Ay,g0,g1,g2]) rfl ?_;rw[q7.u];exact⟨rfl,(Bo.of3 w.1.size w3 _ _ _).below q6.u (Á _)⟩
