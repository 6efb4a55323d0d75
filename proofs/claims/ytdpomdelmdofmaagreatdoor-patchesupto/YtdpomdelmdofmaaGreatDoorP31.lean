import Derived.Test.YtdpomdelmdofmaaGreatDoorP29
import Derived.Test.YtdpomdelmdofmaaGreatDoorP26
set_option maxRecDepth 100000
set_option maxHeartbeats 16000000
namespace Go.Proofs.YtdpomdelmdofmaaGreatDoor
open Go.Proofs.Tryz Go.RowKit Go.Maps
variable{a b ks:List By}
section
variable{w:World}{v:Value}
theorem Bk.cells{l:List By}(h:Bk w v l):∃(g off cap:Nat) (a:Option Addr),v=.slice a l.length cap/\l.length<=maxLen/\(0<l.length->a=some ⟨g,off,none⟩)/\∀W,Bl w W ->∀k (hk:k<l.length),W.cell? ⟨g,off+k,none⟩=some (.string ⟨l[k].toArray⟩):=by
 rcases h with⟨rfl,a,c,rfl⟩|⟨h0,g,off,cap,rfl,h1,h2,hg,hc⟩
 .exact⟨0,0,c,a,rfl,φ,(λh=>by simp at h),λ_ _ k hk=>by simp at hk⟩
 .exact⟨g,off,cap,_,rfl,ζ,(λ_=>rfl),λW hW k hk=>(hW.cell (p:=⟨g,off+k,none⟩) hg).trans (hc k hk)⟩
theorem XV{i:Nat}(h1:i<a.length)(h2:i<b.length):Dk (a.drop i) (b.drop i)=((a[i]==b[i]) && Dk (a.drop (i+1)) (b.drop (i+1))):=by
 rw[Û h1,Û h2,Dk]
theorem bX{i:Nat}(h1:i<a.length)(h2:b.length<=i):Dk (a.drop i) (b.drop i)=false:=by
 rw[Û h1,í h2,Dk]
theorem Re{v':Value}(ha:Bk w v a)(hb:Bk w v' b):
  CB 134 #[v,v'] w (.bool (Dk a b)):=by
 obtain⟨g,o,c,x,rfl,h1,h2,h3⟩:=ha.cells;obtain⟨g',o',c',x',rfl,qf,q7,q8⟩:=hb.cells;obtain⟨n,hn⟩:∃n,n=a.length:=⟨_,rfl⟩
 obtain⟨m,hm⟩:∃m,m=b.length:=⟨_,rfl⟩
 have H2:=Ab h2;have qd:=Ab q7;have H3:=Ab h3;have qe:=Ab q8;have qh:(n:Int)<=9223372036854775807:=by unfold maxLen at h1;omega
 have HN:=Ab (ð hn hm);rw[<-hn,<-hm];clear ha hb h1 qf h2 q7 h3 q8 hn hm;go_enter func134,ntmps134;go_wp2_with fail;go_loopw [5] (λi wr=>∃(j:Nat),j<=n/\i=.int .i64 j/\Dk a b=Dk (a.drop j) (b.drop j)/\Bl w wr) (λi _=>n-(intOf i).toNat)
 case atStart=>exact⟨0,ζ,rfl,rfl,Â _ _⟩
 case round=>
  obtain⟨j,hj,rfl,q9,q5⟩:=hrel;have HB:=Ab q9;have HW:=Ab (ð q5 (show∀n,Bl w (wr.drewN n)from λn=>(bx q5)));clear q9;by_cases hlt:j<n
  .have q6:j<a.length:=by have:=HN.u.1;omega
   obtain rfl:=H2.u ζ;have s1:=H3.u wr q5 j q6;by_cases qg:j<m
   .have qb:j<b.length:=by have:=HN.u.2;omega
    obtain rfl:=qd.u ζ;have s2:=qe.u wr q5 j qb;have HD:=Ab (XV q6 qb);obtain⟨p,hp⟩:∃p,p=a[j]:=⟨_,rfl⟩
    obtain⟨q,hq⟩:∃q,q=b[j]:=⟨_,rfl⟩
    rw[<-hp]at s1 HD;rw[<-hq]at s2 HD;have e1:decide ((m:Int)<=(j:Int))=false:=decide_eq_false ζ;clear hp hq q5;by_cases q4:p=q
    .have e2:(p != q)=false:=by rw[q4];simp
     have e3:(p==q)=true:=by rw[q4];simp
     have q0:=Ab (show Dk a b=Dk (a.drop (j+1)) (b.drop (j+1)) by rw[HB.u,HD.u,e3];rfl);clear q4;go_wp2_with fail;go_quiet(fail);all_goals (go_wp2_with fail;exact⟨⟨j+1,ζ,ψ,q0.u,HW.u.2 _⟩,by simp only[intOf];omega⟩)
    .have e2:(p != q)=true:=by simpa using q4
     have e3:(p==q)=false:=by simpa using q4
     have q0:=Ab (show Dk a b=false by rw[HB.u,HD.u,e3];rfl);clear q4;go_wp2_with fail;go_quiet(fail);all_goals (go_wp2_with fail;go_ret;exact⟨by rw[q0.u];rfl,HW.u.2 _⟩)
   .have q0:=Ab (show Dk a b=false by rw[HB.u];exact bX q6 (by have:=HN.u.2;omega));have e1:decide (m<=j)=true:=decide_eq_true ζ;clear qg;go_wp2_with fail;go_quiet(fail);all_goals (go_wp2_with fail;go_ret;exact⟨by rw[q0.u];rfl,HW.u.2 _⟩)
  .have q0:=Ab (show Dk a b=true by rw[HB.u,í (by have:=HN.u.1;omega)];rfl);go_wp2_with fail;go_ret;exact⟨by rw[q0.u];rfl,HW.u.1⟩
end
def Hw(l:List St)(ks:List Int)(L:List Tri):Prop:=∀o∈L,o∈l/\o.1∈ks
theorem Hw.snoc{l:List St}{ks:List Int}{L:List Tri}{o:Tri}(h:Hw l ks L)(h1:o∈l)(h2:o.1∈ks):Hw l ks (L++[o]):=by
 intro x hx;rcases ó.1 hx with hx|hx
 .exact h x hx
 grind
theorem WP{sb so m cap kb N:Nat}{l:List St}{ks:List Int}{w:World}(hs:Scr w sb so l)(hm:m=l.length)(hN:N=ks.length)(z5:m*N*40<=140737488355328)(zh:m<=9223372036854775807)(ze:N<=1000)(qv:sb<w.1.size)(hk:∀j (hj:j<ks.length),w.cell? ⟨kb,j,none⟩=some (.int .i64 ks[j]))(z7:kb<w.1.size):
  Calls Tryz.prog 16 #[.slice (some ⟨sb,so,none⟩) m cap,.slice (some ⟨kb,0,none⟩) N N] w λe w'=>∃(sl:Value) (L3:List Tri),e=.returned sl/\Bl w w'/\w'.ownsRow w.1.size 49 3 sl L3.length (CX L3)/\Hw l ks L3/\L3.length<=m*N:=by
 obtain⟨i0,z6,hz0,zb,hz2⟩:=ę Y7;have zi:(m:Int)<=9223372036854775807:=ζ;have zf:(N:Int)<=9223372036854775807:=ζ;have HS:=Ab hs;have HM:=Ab hm;have HN:=Ab hN;have HK:=Ab hk;clear hs hm hN hk;go_enter func16,ntmps16;go_wp2;go_loopw [5,6] (λsv i wr=>∃(k:Nat) (L3:List Tri) (sl:Value),k<=m/\sl=sv/\i=.int .i64 k/\wr.ownsRow w.1.size 49 3 sl L3.length (CX L3)/\Hid (Hw l ks L3)/\L3.length<=k*N/\Bl w wr) (λ_ i _=>m-(intOf i).toNat)
 case atStart=>exact⟨0,[],.slice none 0 0,ζ,rfl,rfl,å _ _ _ _,(show Hw l ks []from λo ho=>nomatch ho),φ,Â _ _⟩
 case round=>
  obtain⟨k,L0,zj,hk,rfl,rfl,q6,qe,q9,q5⟩:=hrel;by_cases hlt:k<m
  .have qy:k<l.length:=by have:=HM.u;omega
   obtain⟨q0,q1,q2⟩:=HS.u k qy;obtain⟨o,ho⟩:∃o,o=l[k]:=⟨_,rfl⟩
   rw[<-ho]at q0 q1 q2;have HO:=Ab (show o∈l by rw[ho];exact Ó qy);have qz:(k+1)*N<=m*N:=Nat.mul_le_mul_right N hlt;rw[Nat.succ_mul]at qz;obtain⟨kN,qn⟩:∃kN,kN=k*N:=⟨_,rfl⟩
   obtain⟨mN,qo⟩:∃mN,mN=m*N:=⟨_,rfl⟩
   rw[<-qn,<-qo]at qz;rw[<-qn]at q9;rw[<-qo]at z5;have z0:=Ab qn;have zc:=Ab qo;have z1:=Ab q0;have z2:=Ab q1;have z3:=Ab q2;have qi:=Ab q6;have qf:=Ab q5;clear q0 q1 q2 ho qn qo q6 q5;go_wp2;go_loopw [5,7] (λsv jv wx=>∃(j:Nat) (L3:List Tri) (sl:Value),j<=N/\sl=sv/\jv=.int .i64 j/\wx.ownsRow w.1.size 49 3 sl L3.length (CX L3)/\Hid (Hw l ks L3)/\L3.length<=kN+j/\Bl w wx) (λ_ j _=>N-(intOf j).toNat)
   case atStart=>exact⟨0,L0,_,ζ,rfl,rfl,qi.u,qe,ζ,qf.u⟩
   case round=>
    obtain⟨j,L3,sl,hj,rfl,rfl,qk,qq,z8,q4⟩:=hrel;have q7:=Ab qk;have qd:=Ab q4;by_cases zg:j<N
    .have qw:j<ks.length:=by have:=HN.u;omega
     have s0:=As q4 _ _ qv z1.u;have s1:=As q4 _ _ qv z2.u;have s2:=As q4 _ _ qv z3.u;have d0:=As q4 _ _ z7 (HK.u j qw);have qr:=Ab (show ks[j]∈ks from Ó qw);generalize ks[j]=kj at*;have za:=q4.size;clear qk q4;by_cases h1:o.1=kj
     .subst h1;have qh:=Ab (qq.u |>.snoc HO.u qr.u);go_wp2_with fail;go_quiet(fail);go_wp2_with (at_builtin;go_loud (refine õ _ rfl _ _ _ rfl w.1.size 49 i0 _ 3 40 underlying24 z6 hz0 zb hz2 rfl η sl L3.length (CX L3) rfl (ĭ (w:=wr.drewN _) q7.u _) ⟨wr.1.size,0,none⟩ 1 1 [.int .i64 o.1,.string ⟨o.2.1.toArray⟩,.string ⟨o.2.2.toArray⟩] rfl rfl (Ö (cs:=#[.int .i64 o.1,.string ⟨o.2.1.toArray⟩,.string ⟨o.2.2.toArray⟩]) (t:=49) (fr:=(0,0)) (Ê (wr.drewN _) _)) (by simp[Value.oneCell']) η (by unfold maxLen;omega) ζ ω (wr.1.size+1) φ ?_;intro g qt w6 qb q8 qu z9;have qj:=Ab qb;have qg:=Ab q8;clear qb q8 qu));have z4:Bl w w6:=by
       have hg:=qg.u;refine qd.u.trans ⟨hg.os,hg.tape,hg.output,Ã φ hg.size,λj hj=>?_⟩;refine(hg.block j ω ?_).trans (Ä (wr.drewN _) _ j ω);intro h;have:=(Y6 q7.u j h.symm).2;omega
      have qm:w6.ownsRow w.1.size 49 3 (.slice (some ⟨g,0,none⟩) (L3.length+1) qt) (L3++[o]).length (CX (L3++[o])):=by
       rw[Yv,UJ];exact qj.u
      exact⟨⟨j+1,L3++[o],_,ζ,rfl,ψ,qm,qh,ε,z4⟩,by simp only[intOf];omega⟩
     .have e1:(o.1==kj)=false:=beq_eq_false_iff_ne.2 h1;clear h1;go_wp2_with fail;go_quiet(fail);go_wp2;exact⟨⟨j+1,L3,_,ζ,rfl,ψ,q7.u,qq,ζ,mJ qd.u⟩,by simp only[intOf];omega⟩
    .obtain rfl:j=N:=ζ;go_wp2;exact⟨⟨k+1,L3,_,ζ,rfl,ψ,q7.u,qq,by rw[Nat.succ_mul,<-z0.u];omega,qd.u⟩,by simp only[intOf];omega⟩
  .obtain rfl:k=m:=ζ;go_wp2;go_ret;exact⟨_,L0,rfl,q5,q6,qe.u,q9⟩
theorem Wc{k:Nat}(h:k<ks.length):AO (ks.take (k+1))=AO (ks.take k)++47::Bw ks[k]:=by
 rw[Í h];simp only[AO,Ĭ,ã,List.flatMap_nil,ĉ]
theorem VD{t:By}{k:Nat}(h:k<t.length):Bw (t.take (k+1))=Bw (t.take k)++DJ t[k]:=by
 rw[Í h];simp only[Bw,Ĭ,ã,List.flatMap_nil,ĉ]
theorem Wb(k:Nat):(AO (ks.take k)).length<=(AO ks).length:=by
 have h:AO ks=AO (ks.take k)++AO (ks.drop k):=by
  conv=>lhs;rw[<-List.take_append_drop k ks]
  simp only[AO,Ĭ]
 grind
theorem Rh{w:World}{pv:Value}(hp:Dl w pv ks)(hs:(ks.map λt=>t.length+1).sum<=1000000)(hT:Fq w):
  Calls Tryz.prog 165 #[pv] w λe w'=>e=.returned (.string ⟨(AO ks).toArray⟩)/\Below w.1.size w w':=by
 obtain⟨B,q7⟩:∃B,B=w.1.size:=⟨_,rfl⟩
 obtain⟨W0,q9⟩:∃W0,W0=w.alloc (.cells #[.pointer none,.slice none 0 0] 119):=⟨_,rfl⟩
 have qr:Below B w W0:=by rw[q9,q7];exact(Â _ _).alloc (Á _) _
 have qy:W0.1.size=B+1:=κ;have h0:Bu B B [] W0:=Å ⟨Á _,.slice none 0 0,by rw[q9,q7];show(w.1.push _)[w.1.size]?=_;simp,å _ _ _ _,by simp[Value.ownBlock]⟩;obtain⟨zc,qw⟩:=Ih ks;have zf:=IU ks;obtain⟨N,hN⟩:∃N,N=ks.length:=⟨_,rfl⟩
 obtain⟨ao,cap,zg,q0⟩:∃ao cap,pv=.slice ao N cap/\(0<N ->∃g o,ao=some ⟨g,o,none⟩/\g<B/\N<=cap/\∀k (hk:k<ks.length),w.cell? ⟨g,o+k,none⟩=some (.string ⟨ks[k].toArray⟩)):=by
  rcases hp with⟨rfl,a,c,rfl,_⟩|⟨g,o,cap,rfl,h2,_,hg,hc⟩
  .grind
  .exact⟨_,cap,by rw[hN],ε⟩
 subst zg;have qd:=Ab qr;have qo:=Ab qy;have H0:=Ab h0;have HC:=Ab q0;have HT:=Ab hT;have HL:=Ab (show(∀t∈ks,t.length<=1000000)/\(AO ks).length<=2000000 from⟨λt ht=>by have:=qw t ht;omega,ζ⟩);have HN:=Ab hN;have qk:=Ab q7;have z7:=Ab q9;have zl:(N:Int)<=1000000:=ζ;have zk:=λW s=>Lib.run_convert_string_bytes (P:=Tryz.prog) W 9 117 5 s underlying9 underlying117 underlying5;rw[<-q7];clear hp hs hT qr qy h0 zc qw zf q0 hN q7 q9;go_enter func165,ntmps165;go_wp2_with fail;rw[<-z7.u,<-qk.u];go_loopw [10] (λi wr=>∃k:Nat,k<=N/\i=InB k/\Hid (Bu B B (AO (ks.take k)) wr)/\Hid (Fr B B W0 wr)) (λi _=>N-(intOf i).toNat)
 case atStart=>exact⟨0,ζ,rfl,by simpa[AO]using H0,Fr.refl _ _ _⟩
 case round=>
  obtain⟨k,hk,rfl,qm,HF⟩:=hrel;have qf:B<=wr.1.size:=by have:=HF.u.low.size;have:=qo.u;omega
  by_cases hlt:k<N
  .have qh:k<ks.length:=by have:=HN.u;omega
   obtain⟨g,o,za,hg,qg,hc⟩:=HC.u ζ;subst za;have ck:wr.cell? ⟨g,o+k,none⟩=some (.string ⟨ks[k].toArray⟩):=(((qd.u.trans HF.u.low).cell (p:=⟨g,o+k,none⟩) hg)).trans (hc k qh);have qq:=Ab (Wc qh);have zh:=HL.u.1 _ (Ó qh);obtain⟨t,ht⟩:∃t,t=ks[k]:=⟨_,rfl⟩
   rw[<-ht]at ck qq zh;have hpk:=Ã (Wb (ks:=ks) k) HL.u.2;have qi:(k:Int)<(N:Int):=ζ;have ze:(k:Int)<(cap:Int):=ζ;have zm:(N:Int)<=(cap:Int):=ζ;have qn:=Ab (BF 47 47 rfl qm.u ζ qf);clear ht hc;go_wp2_with fail;refine qn.u.mono ?_;rintro e w1⟨rfl,h1,f1⟩;obtain⟨cs,fz,q8,qu,qt,qb⟩:=Ou w1 t;have z8:B<=w1.1.size:=Ã qf f1.low.size;have H2:=Ab (Dx h1 qb);have F2:=Ab ((HF.u.trans f1).trans ⟨qb.mono z8,OKz.below qb⟩);have zb:w1.1.size≠B:=by
    rcases h1 with h1|h1
    .have:=h1.lt;omega
    .have:=h1.lt;omega
   have z5:=Ab q8;have z2:=Ab qu;have qz:=Ab qt;clear h1 f1 qb q8 qu qt qn ck hg qg;go_wp2_with fail;generalize Lib.bytesWorld w1 5 ⟨t.toArray⟩=w2 at*;go_loopw [18] (λi wx=>∃j:Nat,j<=t.length/\i=InB j/\Hid (Bu B B (AO (ks.take k)++47::Bw (t.take j)) wx)/\Hid (Fr B B W0 wx)/\Hid (wx.1[w1.1.size]?=some (.cells cs 5 fz))) (λi _=>t.length-(intOf i).toNat)
   case atStart=>grind [AO,Bw,intOf]
   case round=>
    obtain⟨j,hj,rfl,q5,qe,z4⟩:=hrel;have z9:B<=wr.1.size:=by have:=qe.u.low.size;have:=qo.u;omega
    by_cases qv:j<t.length
    .have hro:wr.1[w1.1.size]?=some (.cells cs 5 fz):=z4.u;have cc:wr.cell? ⟨w1.1.size,j,none⟩=some (.int .u8 (t[j].toNat:Int)):=by simp[World.cell?,hro,qz.u j qv]
     have q6:=Ab (VD qv);have zi:(Bw (t.take j)).length<=2*t.length:=by
      have h1:=K6 (t.take j);grind
     have z3:Hid (∀w':World,Fr B B wr w'->w'.1[w1.1.size]?=some (.cells cs 5 fz)):=λw' h=>h.oth _ _ hro zb (λc e=>by injection e with _ _ e;exact z2.u e);obtain⟨c,hc⟩:∃c,c=t[j]:=⟨_,rfl⟩
     rw[<-hc]at cc q6;have z0:=Ab (oW c q5.u ε z9 (HT.u.kept (by unfold Bl;exact qk.u▸(qd.u.trans qe.u.low))));have qj:(j:Int)<(t.length:Int):=ζ;have zj:=c.toNat_lt;clear hc hro;go_wp2_with fail;refine z0.u.mono ?_;rintro e w5⟨rfl,h5,f5⟩;have H5:=Ab h5;have F5:=Ab f5;clear h5 f5;go_wp2;exact⟨⟨j+1,ζ,ψ,by rw[q6.u];grind,qe.u.trans F5.u,z3.u _ F5.u⟩,by simp[intOf];omega⟩
    .obtain rfl:j=t.length:=ζ;have qj:¬((t.length:Nat):Int)<((t.length:Nat):Int):=ζ;have q4:=q5.u;rw[List.take_length,<-qq.u]at q4;have z1:=Ab q4;clear q4;go_wp2_with fail;grind [AO,Bw,intOf]
  .obtain rfl:k=N:=ζ;have qi:¬(k:Int)<(k:Int):=ζ;have h9:=qm.u;rw[Ï (by have:=HN.u;omega)]at h9;have z6:=Ab (Tryz.Builder_String_any B B _ wr h9 qf);clear h9;go_wp2_with fail;refine z6.u.mono ?_;rintro e w2⟨rfl,hb2⟩;go_wp2;go_ret;exact⟨φ,(qd.u.trans HF.u.low).trans hb2⟩
