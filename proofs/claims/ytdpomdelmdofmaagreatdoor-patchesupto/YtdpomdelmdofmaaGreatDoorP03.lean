import Derived.Test.YtdpomdelmdofmaaGreatDoorP02
open Go.Proofs.Tryz renaming prog->AI
open Go renaming World->AS,Value->A1,Calls->A2,results->CL,maxLen->C0
open Go.Lib renaming hasPrefix->AT,frozen_of_heap->A3,BuilderAt->B2,alloc_old->B3,runeCells->B4,byteCells->CR,strCells->C2
open Go.Lib.BuilderAt renaming put->A4
open Go.Oper renaming upon_value->A5
open Go.Result renaming andThen->Bs
open Go.Instr renaming index->BY
open Go.Calls renaming quiet_of_same->B1
set_option maxHeartbeats 16000000
set_option maxRecDepth 100000
namespace Go.Proofs.YtdpomdelmdofmaaGreatDoor
open Go.Proofs.Tryz Go.RowKit
variable{b B R:Nat}{w w':AS}{v:A1}{t:ByteArray}{l:By}{tw:Bool}{dp fr:Int}
theorem Tq:(Tryz.prog.info? 5).map (λi=>(i.zero,i.size,i.bytes))=some (some (.int .u8 0),1,1):=δ
theorem XX:(Tryz.prog.info? 119).map (λi=>decide (0<i.size))=some true:=δ
abbrev IsB(B b:Nat)(bs:List A1)(w:AS):Prop:=Lib.IsBuilder 119 5 B b bs w
abbrev BAt(B b:Nat)(bs:List A1)(w:AS):Prop:=B2 119 5 B b (PtB b) bs w
def OKz(b:Nat)(w w':AS):Prop:=∀k o,w.1[k]?=some o->k≠b->(∀c,o ≠ .cells c 5 (0,0))->w'.1[k]?=some o
theorem OKz.refl(b:Nat)(w:AS):OKz b w w:=λ_ _ h _ _=>h
theorem OKz.trans{w1 w2 w3:AS}(h:OKz b w1 w2)(g:OKz b w2 w3):OKz b w1 w3:=λk o h1 h2 h3=>g k o (h k o h1 h2 h3) h2 h3
theorem OKz.setCell(b:Nat)(w:AS)(j:Nat)(v:A1):OKz b w (w.setCell ⟨b,j,none⟩ v):=λ_ _ h1 h2 _=>(Æ _ _ _ _ h2).trans h1
theorem OKz.below(h:Bl w w'):OKz b w w':=λk _ h1 _ _=>(h.block k (È.1 h1).1).trans h1
theorem OKz.grown{n:Nat}{xs:List A1}{w0 w2:AS}(q0:w.ownsRow B 5 1 v n xs)(h0:∀k,k<w.1.size->w0.1[k]?=w.1[k]?)(hs:w.1.size<=w0.1.size)(hg:w0.grownBy w2 v.ownBlock):OKz b w w2:=by
 intro k o h1 _ h3;have hk:=(È.1 h1).1;refine(hg.block k ζ ?_).trans ((h0 k hk).trans h1);intro hv;rcases q0.2 with⟨e,_⟩|⟨g,cap,cur,e,_,hb,_⟩
 .rw[e]at hv;cases hv
 .rw[e]at hv;injection hv with hv;grind
theorem M7(b:Nat)(w:AS)(h0:CeB w b 0=some (PtB b)):
  A2 AI 142 #[PtB b] w λe w'=>e=.returned (.tuple #[])/\w'=w:=by
 obtain⟨j,hj,_⟩:=à.1 XX;go_enter func142,ntmps142;go_wp2;rw[Lib.run_neq_ptr_same w _ underlying116 hj];go_wp2;go_end0;grind
theorem jB:∃j,Tryz.prog.info? 119=some j/\0<j.size:=by
 obtain⟨j,hj,h⟩:=à.1 XX;grind
theorem MA(b:Nat)(w:AS)(h0:CeB w b 0=some (.pointer none))(q0:w.shape? b=some (119,2))(q4:w.frozen? ⟨b,0,none⟩=false):
  A2 AI 142 #[PtB b] w λe w'=>e=.returned (.tuple #[])/\w'=w.setCell ⟨b,0,none⟩ (PtB b):=by
 obtain⟨j,hj,q5⟩:=jB;go_enter func142,ntmps142;go_wp2;rw[Lib.run_to_unsafe w ⟨b,0,none⟩ underlying116 underlying250 hj ζ q0 (Nat.zero_lt_succ 1)];simp only[Bs];rw[A5];go_wp2;rw[run_callFunc_extern func189 δ δ δ (e:=Extern.AbiNoEscape.same) δ];rw[Lib.run_noEscape];simp only[Bs];rw[A5];go_wp2;rw[Lib.run_from_unsafe w ⟨b,0,none⟩ underlying250 underlying116 hj q0 δ];simp only[Bs];rw[A5];go_wp2;go_end0;grind
theorem FZ(B b:Nat)(bs:List A1)(w:AS)(h:IsB B b bs w):
  A2 AI 142 #[PtB b] w λe w'=>e=.returned (.tuple #[])/\BAt B b bs w'/\Below B w w'/\OKz b w w':=by
 rcases h with h|h
 .refine (MA b w h.cell0 h.shape h.frozen0).mono ?_;rintro e w' ⟨rfl,rfl⟩;exact⟨rfl,h.used _,(Â B w).setCell (p:=⟨b,0,none⟩) h.1 _,OKz.setCell _ _ _ _⟩
 .refine (M7 b w h.cell0).mono ?_;rintro e w' ⟨rfl,rfl⟩;exact⟨rfl,h,Â B _,OKz.refl _ _⟩
theorem OP(B b:Nat)(bs:List A1)(c:Int)(w:AS)(h:IsB B b bs w)(q8:bs.length+1<=140737488355328)(qb:B<=w.1.size):
  A2 AI 139 #[PtB b,.int .u8 c] w λe w'=>e=.returned .nilIface/\BAt B b (bs++[.int .u8 c]) w'/\Below B w w'/\OKz b w w':=by
 obtain⟨i0,hi,hz0,q9,hz2⟩:=ę Tq;go_enter func139,ntmps139;go_wp2_with fail;refine(FZ B b bs _ h).mono ?_;rintro e w1⟨rfl,h1,hb1,q7⟩;obtain⟨hB,v,q6,q5,hne⟩:=h1;have c0:w1.cell? ⟨b,0,none⟩=some (PtB b):=by rw[ċ q6];rfl
 have c1:w1.cell? ⟨b,1,none⟩=some v:=by rw[ċ q6];rfl
 go_wp2_with (at_builtin;refine wpList_append_own _ rfl _ _ 117 rfl B 5 i0 (.int .u8 0) 1 1 underlying117 hi hz0 q9 hz2 rfl η _ _ _ rfl (q5.alloc _) ⟨w1.1.size,0,none⟩ 1 1 [.int .u8 c] rfl rfl ?c1 ?c2 ?c3 ?c4 ?c5 ?_)
 case c1=>
  intro j u hj
  match j,hj with
  |0,hj=>simp at hj;subst hj;simp[Addr.add]
 case c2=>intro u hu;simp at hu;subst hu;rfl
 case c3=>unfold C0;omega
 case c4=>omega
 case c5=>have:=hb1.size;simp;omega
 intro v' w2 q4 q0 _;have hlt:b<w1.1.size:=ε;have hb2:w2.1[b]?=some (.cells #[PtB b,v] 119 (0,0)):=by
  rw[q0.block b ω (λe=>hne e.symm),B3 w1 _ b hlt];exact q6
 have d0:w2.cell? ⟨b,0,none⟩=some (PtB b):=by rw[ċ hb2];rfl
 have d1:w2.cell? ⟨b,1,none⟩=some v:=by rw[ċ hb2];rfl
 have f1:w2.frozen? ⟨b,1,none⟩=false:=A3 hb2 1;obtain⟨g,cap,rfl⟩:∃g cap,v'=SlB g (bs.length+1) cap:=by
  rcases q4.2 with⟨_,h0⟩|⟨g,cap,cur,hv,_⟩
  .omega
  grind
 go_wp2;go_ret;refine⟨rfl,?_,?_,(q7.trans (OKz.grown q5 (λk hk=>B3 w1 _ k hk) φ q0)).trans (OKz.setCell _ _ _ _)⟩
 .exact A4 hB hb2 (bs':=bs++[.int .u8 c]) (by simpa using q4) η
 .exact ((hb1.alloc ζ _).grown q0 (by have:=hb1.size;simp;omega) (λk hk=>(q5.lt k hk).1)).setCell (p:=⟨b,1,none⟩) hB _
theorem MD(B b:Nat)(bs:List A1)(s:ByteArray)(w:AS)(h:IsB B b bs w)(q8:bs.length+s.size<=140737488355328)(_:B<=w.1.size):
  A2 AI 107 #[PtB b,.string s] w λe w'=>e=.returned (.tuple #[.int .i64 s.size,.nilIface])/\BAt B b (bs++C2 s) w'/\Below B w w'/\OKz b w w':=by
 obtain⟨i0,hi,hz0,q9,hz2⟩:=ę Tq;go_enter func107,ntmps107;go_wp2_with fail;refine(FZ B b bs _ h).mono ?_;rintro e w1⟨rfl,h1,hb1,q7⟩;obtain⟨hB,v,q6,q4,hne⟩:=h1;have c0:w1.cell? ⟨b,0,none⟩=some (PtB b):=by rw[ċ q6];rfl
 have c1:w1.cell? ⟨b,1,none⟩=some v:=by rw[ċ q6];rfl
 go_wp2_with (at_builtin;refine Lib.wpList_append_own_string _ rfl _ _ 117 9 rfl B 5 i0 underlying117 underlying9 hi hz0 q9 hz2 _ _ _ rfl q4 s rfl ?c3 ?c4 ?c5 ?_)
 case c3=>unfold C0;omega
 case c4=>omega
 case c5=>grind
 intro v' w2 q5 q0 _;have hlt:b<w1.1.size:=ε;have hb2:w2.1[b]?=some (.cells #[PtB b,v] 119 (0,0)):=by
  rw[q0.block b hlt (λe=>hne e.symm)];exact q6
 have d0:w2.cell? ⟨b,0,none⟩=some (PtB b):=by rw[ċ hb2];rfl
 have d1:w2.cell? ⟨b,1,none⟩=some v:=by rw[ċ hb2];rfl
 have f1:w2.frozen? ⟨b,1,none⟩=false:=A3 hb2 1;obtain⟨ao,n',cap,rfl⟩:∃ao n' cap,v'=.slice ao n' cap:=by
  rcases q5.2 with⟨hv,_⟩|⟨g,cap,cur,hv,_⟩
  .grind
  grind
 go_wp2;go_ret2;refine⟨rfl,?_,?_,(q7.trans (OKz.grown q4 (λk _=>rfl) (Á _) q0)).trans (OKz.setCell _ _ _ _)⟩
 .exact A4 hB hb2 (bs':=bs++C2 s) (by grind [Lib.strCells_length,C0]) η
 .exact (hb1.grown q0 ζ (λk hk=>(q4.lt k hk).1)).setCell (p:=⟨b,1,none⟩) hB _
theorem OO(B b:Nat)(bs:List A1)(r:Int)(q9:-2147483648<=r)(qb:r<=2147483647)(w:AS)(h:IsB B b bs w)(q8:bs.length+4<=140737488355328)(qe:B<=w.1.size):
  A2 AI 221 #[PtB b,.int .i32 r] w λe w'=>(∃n,e=.returned (.tuple #[.int .i64 n,.nilIface]))/\BAt B b (bs++B4 r) w'/\Below B w w':=by
 go_enter func221,ntmps221;go_wp2_with fail;refine(FZ B b bs _ h).mono ?_;rintro e w1⟨rfl,h1,hb1,qd⟩;obtain⟨hB,v,q7,q5,hne⟩:=h1;obtain⟨ao,cap,rfl⟩:∃ao cap,v=.slice ao bs.length cap:=by
  rcases q5.2 with⟨hv,h0⟩|⟨g,cap,cur,hv,_⟩
  .grind
  grind
 have c0:w1.cell? ⟨b,0,none⟩=some (PtB b):=by rw[ċ q7];rfl
 have c1:w1.cell? ⟨b,1,none⟩=some (.slice ao bs.length cap):=by rw[ċ q7];rfl
 go_wp2_with fail;refine(Tryz.utf8_AppendRune_plain B _ bs.length bs r q9 qb _ q5 q8 ε).mono ?_;rintro e w2⟨v',rfl,q6,o,q0⟩;have hlt:b<w1.1.size:=ε;have hb2:w2.1[b]?=some (.cells #[PtB b,.slice ao bs.length cap] 119 (0,0)):=by
  rw[q0.block b ω (λe=>hne e.symm),B3 w1 _ b hlt];exact q7
 have d0:w2.cell? ⟨b,0,none⟩=some (PtB b):=by rw[ċ hb2];rfl
 have d1:w2.cell? ⟨b,1,none⟩=some (.slice ao bs.length cap):=by rw[ċ hb2];rfl
 have f1:w2.frozen? ⟨b,1,none⟩=false:=A3 hb2 1;have hex:∃g q4,v'=.slice g (bs.length+(B4 r).length) q4:=by
  rcases q6.2 with⟨hv,h0⟩|⟨g,q4,cur,hv,_⟩
  .grind
  grind
 obtain⟨g,q4,rfl⟩:=hex;go_wp2;go_ret2;refine⟨⟨_,rfl⟩,?_,?_⟩
 .exact A4 hB hb2 (bs':=bs++B4 r) ε η
 .exact ((hb1.alloc ζ _).grown q0 (by have:=hb1.size;simp;omega) (λk hk=>(q5.lt k hk).1)).setCell (p:=⟨b,1,none⟩) hB _
theorem iX(h:RD w R t l tw dp fr)(hT:Aj w)(hR:NG<=R)(k1:pQ l 92=false)(c n:Nat)(hd:rC l=(c,n)):
  A2 AI 220 #[PtB R] w λe w'=>Ac R w w'/\Kt (rP l) e w' R t tw dp fr:=by
 have K1:=Ab k1;have hn:n<=l.length:=by have:=XH l;grind
 have HX:Hid ((rP l=none/\(decide ((c:Int)<32)=true\/(decide ((c:Int)<32)=false/\((c:Int)==65533)=true/\decide ((n:Int)<2)=true)))\/(rP l=some (c,l.drop n)/\((decide ((c:Int)<32)=false/\((c:Int)==65533)=false)\/(decide ((c:Int)<32)=false/\((c:Int)==65533)=true/\decide ((n:Int)<2)=false)))):=by
  unfold Hid rP;rw[hd,k1];simp only[ł,if_false];simp;grind
 clear k1;go_enter func220,ntmps220;go_wp2_with fail;refine(BR 92 _ rfl h K1.u).mono ?_;rintro e w1⟨rfl,q7,q5⟩;have q6:=hT.kept q5 hR;obtain⟨q,ha,hq⟩:=q7;have c0:=hq.c0;have c1:=hq.c1;have b2:(q:Int)<=(t.size:Int):=by have:=ha.le;omega
 have b3:(q:Int)+n<=2000:=by have:=ha.le;have:=ha.small;have:=ha.len;omega
 have cD:∀W:AS,Lib.Utf8Tabs 1 2 W->CB 230 #[.string (t.extract q t.size)] W (.tuple #[.int .i32 c,.int .i64 n]):=λW hW=>by
  have:=Tryz.utf8_DecodeRuneInString (t.extract q t.size) W hW;rw[mF,ha.eq,hd]at this;exact this
 have CD:=Ab cD;have HQ:=Ab hq;have HA:=Ab ha;have HD:=Ab hd;clear hq ha h hT cD hd;go_wp2_with fail;go_region_with (go_at_call 230;refine(CD.u _ ?_).mono ?_;exact q6.utf8;rintro e w' ⟨rfl,hb⟩);all_goals (
  replace hb:Bl w1 w':=bx hb;rcases HX.u with⟨hE,e⟩|⟨hE,e⟩
  .have HE:=Ab hE;clear hE;rcases e with e1|⟨e1,e2,e3⟩;all_goals (
    go_wp2;go_ret2;exact⟨q5.trans (Ac.of_below hb),À ⟨HE.u,0,l,rfl,⟨q,HA.u,HQ.u.kept (Ac.of_below (X:=R+1) hb) ζ⟩⟩⟩)
  .have HE:=Ab hE;have q4:RP w' R t q tw dp fr:=HQ.u.kept (Ac.of_below (X:=R+1) hb) ζ;have d1:=q4.c1;have f1:=q4.fz 1;have q0:RD (w'.setCell ⟨R,1,none⟩ (.int .i64 ((q:Int)+n))) R t (l.drop n) tw dp fr:=⟨q+n,HA.u.add n hn,q4.set1 (q+n)⟩
   have HF:=Ab q0;clear q4 q0 hE;rcases e with⟨e1,e2⟩|⟨e1,e2,e3⟩;all_goals (
    go_wp2;go_ret2;exact⟨(q5.trans (Ac.of_below hb)).setCell rfl _,Å ⟨c,l.drop n,HE.u,rfl,HF.u⟩⟩))
theorem OM(h:RD w R t l tw dp fr)(hT:Aj w)(hR:NG<=R):
  A2 AI 220 #[PtB R] w λe w'=>Ac R w w'/\Kt (rP l) e w' R t tw dp fr:=by
 by_cases k1:pQ l 92=true
 .have hE:Hid (rP l=rM l.tail):=by unfold Hid rP;grind
  have K1:=Ab k1;clear k1;go_enter func220,ntmps220;go_wp2_with fail;refine(AX 92 _ rfl h K1.u).mono ?_;rintro e w1⟨rfl,q5,q0⟩;go_wp2_with fail;refine(UL q5 (hT.kept q0 hR) hR).mono ?_;rintro e w2⟨hk2,hc⟩;rcases hc with⟨n,l',hs,rfl,q4⟩|⟨hs,n,l',rfl,q4⟩
  .have HS:=Ab hs;clear hs;go_wp2;go_ret2;exact⟨q0.trans hk2,Å ⟨n,l',by rw[hE.u];exact HS.u,rfl,q4⟩⟩
  .have HS:=Ab hs;clear hs;go_wp2;go_ret2;exact⟨q0.trans hk2,À ⟨by rw[hE.u];exact HS.u,n,l',rfl,q4⟩⟩
 .have k1:=Bq k1;obtain⟨c,n,hd⟩:∃c n,rC l=(c,n):=⟨_,_,rfl⟩
  exact iX h hT hR k1 c n hd
theorem QT{p:A1}{bs:List A1}(h:B2 119 5 B b p bs w)(hk:Ac R w w')(hR:R<B):B2 119 5 B b p bs w':=by
 obtain⟨hB,v,hb,q0,hne⟩:=h;refine⟨hB,v,(hk.block b ε ζ).trans hb,?_,hne⟩;refine⟨q0.1,q0.2.imp id ?_⟩;rintro⟨g,cap,cur,h1,h2,h3,h4⟩;exact⟨g,cap,cur,h1,h2,(hk.block g ε ζ).trans h3,h4⟩
theorem Lz{bs:List A1}(h:IsB B b bs w)(hk:Ac R w w')(hR:R<B):IsB B b bs w':=
 h.imp (λh=>QT h hk hR) (λh=>QT h hk hR)
theorem Ac.belowB{X:Nat}{a b:AS}(h:Ac X w a)(hb:Below B a b)(hB:w.1.size<=B):Ac X w b:=
 ⟨hb.os.trans h.os,hb.tape.trans h.tape,hb.output.trans h.output,Ã h.size hb.size,λk hk hx=>(hb.block k ζ).trans (h.block k hk hx)⟩
def jY(o:Option (By×By))(e:Ending)(w':AS)(R:Nat)(t:ByteArray)(tw:Bool)(dp fr:Int):Prop:=
 (∃s l',o=some (s,l')/\e=.returned (.tuple #[.string ⟨s.toArray⟩,.bool true])/\RD w' R t l' tw dp fr)\/
  (o=none/\∃s l',e=.returned (.tuple #[.string s,.bool false])/\RD w' R t l' tw dp fr)
theorem LS(h:RD w R t l tw dp fr)(hT:Aj w)(hR:NG<=R):
  A2 AI 182 #[PtB R] w λe w'=>Ac R w w'/\jY (rJ l) e w' R t tw dp fr:=by
 have qb:l.length<=2000:=by obtain⟨p,ha,_⟩:=h;have:=ha.len;have:=ha.small;omega
 by_cases k1:pQ l 34=true
 .have hE:Hid (rJ l=Ck (l.length+1) l.tail):=by unfold Hid rJ;grind
  have K1:=Ab k1;have qi:=AV k1;clear k1;go_enter func182,ntmps182;go_wp2_with fail;refine(AX 34 _ rfl h K1.u).mono ?_;rintro e w1⟨rfl,q6,q5⟩;have q0:=q6.lt;have qd:=hT.kept q5 hR;have qj:=q5.size;clear h hT;go_wp2;go_loopw [10] (λ_ wr=>∃(l' q4:By) (f:Nat),RD wr R t l' tw dp fr/\l'.length<f/\q4.length+4*l'.length<=8000/\IsB w1.1.size w1.1.size (CR q4) wr/\Ac R w1 wr/\
    Ck (l.length+1) l.tail=(match Ck f l' with|none=>none|some (s,r)=>some (q4++s,r))) (λ_ wr=>left wr R)
  case atStart=>
   refine⟨l.tail,[],l.length+1,q6.alloc _,ζ,ω,Lib.fresh_isBuilder _ _ w1,(Ac.refl R w1).alloc _,?_⟩;grind
  case round=>
   obtain⟨l',q4,f,hr,hf,hal,hB,hk,he⟩:=hrel;have HE:=Ab he;have HL:=Ab hr.left;have HB:=Ab hB;have qg:=qd.kept hk hR;have qk:=hk.size;clear he q6 hB;obtain⟨f,rfl⟩:∃g,f=g+1:=⟨f-1,ζ⟩
   by_cases k2:pQ l' 34=true
   .have K2:=Ab k2;clear k2 qd;go_wp2_with fail;refine(AX 34 _ rfl hr K2.u).mono ?_;rintro e w2⟨rfl,q8,hk2⟩;go_wp2_with fail;refine(Tryz.Builder_String_any w1.1.size w1.1.size q4 _ (Lz HB.u hk2 q0) (by have:=hk2.size;omega)).mono ?_;rintro e w3⟨rfl,hb3⟩;go_wp2;go_ret2;refine⟨q5.trans ((hk.trans hk2).belowB hb3 (Á _)),Å ⟨q4,l'.tail,?_,rfl,?_⟩⟩
    .rw[hE.u,HE.u,Ck,K2.u];simp
    .obtain⟨q,ha,hq⟩:=q8;exact⟨q,ha,(hb3.block R q0).trans hq⟩
   .have K2:=Ab (Bq k2);clear k2;go_wp2_with fail;refine(BR 34 _ rfl hr K2.u).mono ?_;rintro e w2⟨rfl,q8,hk2⟩;go_wp2_with fail;refine(OM q8 (qg.kept hk2 hR) hR).mono ?_;rintro e w3⟨q7,hc⟩;rcases hc with⟨n,r,hs,rfl,q9⟩|⟨hs,n,r,rfl,q9⟩
    .have hn:=Gs hs;have HS:=Ab hs;have b1:(0:Int)<=(n:Int):=ζ;have b2:(n:Int)<=2147483647:=ζ;have qh:=Gp (n:Int);clear hs;go_wp2_with fail;refine(OO w1.1.size w1.1.size (CR q4) n ζ ζ _ (Lz (Lz HB.u hk2 q0) q7 q0) (by rw[Lib.byteCells_length];omega) (by have:=hk2.size;have:=q7.size;omega)).mono ?_;rintro e w4⟨⟨m,rfl⟩,qf,hb4⟩;go_wp2_with fail;have qe:RD w4 R t r tw dp fr:=by obtain⟨q,ha,hq⟩:=q9;exact⟨q,ha,(hb4.block R q0).trans hq⟩
     go_roundw
     case rel=>
      refine⟨r,q4++Lib.encodeRune n,f,qe,ζ,ω,À ?_,((hk.trans hk2).trans q7).belowB hb4 (Á _),?_⟩
      .rw[Lib.byteCells_append,Lib.byteCells_encodeRune];exact qf
      .rw[HE.u,Ck,K2.u];simp only[ł,if_false];rw[HS.u];grind
     case measure=>rw[qe.left,HL.u];exact hn.1
    .have HS:=Ab hs;clear hs;go_wp2;go_ret2;refine⟨q5.trans ((hk.trans hk2).trans q7),À ⟨?_,_,r,rfl,q9⟩⟩;rw[hE.u,HE.u,Ck,K2.u];simp only[ł,if_false];rw[HS.u]
 .have hE:Hid (rJ l=none):=by unfold Hid rJ;grind
  have K1:=Ab (Bq k1);clear k1 hT;go_enter func182,ntmps182;go_wp2_with fail;refine(BR 34 _ rfl h K1.u).mono ?_;rintro e w1⟨rfl,q6,q5⟩;go_wp2;go_ret2;exact⟨q5,À ⟨hE.u,_,l,rfl,q6⟩⟩
def Dc(j:Nat):By:=rE.getD j []
theorem dP(w:AS):(BY 165 (.agg CU) (InB 0)).run AI w=.ok (.string ⟨#[110,117,108,108]⟩) w:=δ
theorem dO(w:AS):(BY 165 (.agg CU) (InB 1)).run AI w=.ok (.string ⟨#[116,114,117,101]⟩) w:=δ
theorem dN(w:AS):(BY 165 (.agg CU) (InB 2)).run AI w=.ok (.string ⟨#[102,97,108,115,101]⟩) w:=δ
theorem Yf(j:Nat)(hj:j<3)(w:AS):(BY 165 (.agg CU) (InB j)).run AI w=.ok (.string ⟨(Dc j).toArray⟩) w:=by
 match j,hj with
 |0,_=>exact dP w
 |1,_=>exact dO w
 |2,_=>exact dN w
theorem Vo(l:By)(j:Nat)(hj:j<3):A6 l j (rE.drop j)=if AT l (Dc j)then some (j,l.drop (Dc j).length)else A6 l (j+1) (rE.drop (j+1)):=by
 match j,hj with
 |0,_=>rfl
 |1,_=>rfl
 |2,_=>rfl
theorem JH(j:Nat)(hj:j<3):(Dc j).length<=5:=by
 match j,hj with
 |0,_=>decide
 |1,_=>decide
 |2,_=>decide
theorem Ax(w:AS)(o:Obj)(b:Nat)(hb:b=w.1.size):(w.alloc o).1[b]?=some o:=by
 subst hb;show(w.1.push o)[w.1.size]?=_;simp
def dQ(o:Option (Nat×By))(l:By)(e:Ending)(w w':AS)(R:Nat)(t:ByteArray)(tw:Bool)(dp fr:Int):Prop:=
 (∃k l' b,o=some (k,l')/\e=.returned (.tuple #[PtB b,.bool true])/\k<3/\VB w' b k n0 [] (.slice none 0 0) (.map none)/\w.1.size<=b/\RD w' R t l' tw dp fr)\/
  (o=none/\e=.returned (.tuple #[.pointer none,.bool false])/\RD w' R t l tw dp fr)
theorem Yg(h:RD w R t l tw dp fr)(hT:Aj w):
  A2 AI 185 #[PtB R] w λe w'=>Ac R w w'/\dQ (A6 l 0 rE) l e w w' R t tw dp fr:=by
 obtain⟨tt,fz,q4⟩:=hT.words;clear hT;go_enter func185,ntmps185;go_wp2_with (refine wpList_load_row rfl 165 _ rfl 0 rfl tt _ fz _ q4 underlying165 rfl δ ?_);clear q4;go_loopw [7] (λi wr=>∃j:Nat,j<=3/\i=InB j/\RD wr R t l tw dp fr/\Ac R w wr/\A6 l 0 rE=A6 l j (rE.drop j)) (λi _=>3-(intOf i).toNat)
 case atStart=>exact⟨0,ζ,rfl,h,Ac.refl R w,rfl⟩
 case round=>
  obtain⟨j,q8,rfl,hr,hk,he⟩:=hrel;have HE:=Ab he;clear he h;by_cases hlt:j<3
  .have q5:=Yf j hlt;have q9:=JH j hlt;obtain⟨q,ha,hq⟩:=hr;have c0:=hq.c0;have c1:=hq.c1;have f1:=hq.fz 1;have b2:(q:Int)<=(t.size:Int):=by have:=ha.le;omega
   have b3:(q:Int)<=2000:=by have:=ha.le;have:=ha.small;omega
   have cH:∀W:AS,A2 AI 194 #[.string (t.extract q t.size),.string ⟨(Dc j).toArray⟩] W λe w'=>e=.returned (.bool (AT l (Dc j)))/\w'=W:=λW=>by
    have:=Tryz.strings_HasPrefix (t.extract q t.size) ⟨(Dc j).toArray⟩ W;rw[Lib.extract_to_end,ha.eq]at this;exact this
   have CH:=Ab cH;have HQ:=Ab hq;have HA:=Ab ha;have HS:=Ab (Vo l j hlt);generalize q7:Dc j=wj at*;clear q7;clear hq ha cH;by_cases hp:AT l wj=true
   .have HP:=Ab hp;have q6:wj.length<=l.length:=by
     have:=hp;unfold AT at this;grind
    have C1:Hid (∀W:AS,A2 AI 194 #[.string (t.extract q t.size),.string ⟨wj.toArray⟩] W λe w'=>e=.returned (.bool true)/\w'=W):=by
     simp_all
    clear hp CH;go_wp2_with fail;go_quiet ((go_at_call 194;exact B1 (C1.u _)));go_wp2_with fail;have q0:RD ((((wr.drewN nq).setCell ⟨R,1,none⟩ (InB ((q:Int)+wj.length))).alloc (.cells #[InB j,.bool false,.string ⟨#[]⟩,InB 0,.string ⟨#[]⟩,.slice none 0 0,.map none] 111))) R t (l.drop wj.length) tw dp fr:=
     ⟨q+wj.length,HA.u.add wj.length q6,((HQ.u.drewN nq).set1 (q+wj.length)).alloc _⟩
    go_ret2;refine⟨((hk.drewN nq).setCell (p:=⟨R,1,none⟩) rfl _).alloc _,Å ⟨j,l.drop wj.length,wr.1.size,?_,rfl,hlt,Ax _ _ _ κ,hk.size,q0⟩⟩;rw[HE.u,HS.u,HP.u];rfl
   .replace hp:AT l wj=false:=ε;have HP:=Ab hp;have C1:Hid (∀W:AS,A2 AI 194 #[.string (t.extract q t.size),.string ⟨wj.toArray⟩] W λe w'=>e=.returned (.bool false)/\w'=W):=by
     simp_all
    clear hp CH;go_wp2_with fail;go_quiet ((go_at_call 194;exact B1 (C1.u _)));go_wp2;go_roundw
    case rel=>exact⟨j+1,ζ,ψ,⟨q,HA.u,HQ.u.drewN _⟩,hk.drewN _,by rw[HE.u,HS.u,HP.u];rfl⟩
    case measure=>simp[intOf];omega
  .go_wp2;go_ret2;refine⟨hk,À ⟨?_,rfl,hr⟩⟩;rw[HE.u,show j=3 from ζ];rfl
theorem eD{m:By}{ng:Bool}(h:RD w R t l tw dp fr)(k1:pQ l 45=ng)(hm:m=if ng then l.tail else l):
  A2 AI 178 #[PtB R,.int .u8 45] w λe w'=>e=.returned (.bool ng)/\RD w' R t m tw dp fr/\Ac R w w':=by
 subst hm;cases ng
 .exact BR 45 _ rfl h k1
 .exact AX 45 _ rfl h k1
theorem Zk{m:By}{ng:Bool}(h:RD w R t l tw dp fr)(k1:pQ l 45=ng)(hm:m=if ng then l.tail else l):
  A2 AI 184 #[PtB R] w λe w'=>Ac R w w'/\Ws (BM ng m) e w' R t tw dp fr:=by
 have qu:=h.lt;have qi:m.length<=2000:=by obtain⟨p,ha,_⟩:=h;have:=ha.len;have:=ha.small;subst hm;split<;>simp<;>omega
 have qg:=Ab (eD (h.alloc (.cells #[.bool false,.string ⟨#[]⟩,.int .i64 0] 108)) k1 hm);obtain⟨X,hX⟩:∃X,X=BM ng m:=⟨_,rfl⟩
 rw[<-hX];unfold BM at hX;have qb:=Ab hX;clear k1 hm hX;go_enter func184,ntmps184;go_wp2_with fail;refine qg.u.mono ?_;rintro e w1⟨rfl,qr,qk⟩;go_wp2_with fail;refine(Ga qr).mono ?_;rintro e w2⟨rfl,qd,hk2⟩;have hs2:=((EL.new w).kept qk ζ).kept hk2 ζ;have q0:=(((Ac.refl R w).alloc _).trans qk).trans hk2;clear qg;have hcase:dg m=[]\/(∃d ds,dg m=d::ds/\d=48/\1<ds.length+1)\/∃d ds,dg m=d::ds/\(¬d=48\/(d=48/\ds=[])):=by
  cases dg m with
  |nil=>exact Å rfl
  |cons d ds=>cases ds<;>grind
 rcases hcase with hd|⟨d,ds,hd,hz,hds⟩|⟨d,ds,hd,hz⟩;rotate_left
 .have hE:Hid (X=none):=by
   have h1:pQ m 48=true:=by rw[Tj hd,hz];rfl
   show X=none;rw[qb.u];grind
  have h0:=S7 d ds (FQ d ds);have qh:((((⟨(d::ds).toArray⟩:ByteArray)[0]'(FQ d ds)).toNat:Int)==48)=true:=κ;have gl:decide ((1:Int)<(ds.length:Int)+1)=true:=ω;rw[hd];have s0:=hs2.c0;have s1:=hs2.c1;have s2:=hs2.c2;have z0:=hs2.fz 0;have z1:=hs2.fz 1;have z2:=hs2.fz 2;clear hd hds h0 hz;go_wp2_with fail;refine Ì (v:=.tuple #[Cd (false,[],0),.bool false]) (by simp[CL,results184,go_sem,Cd,s0,s1,s2]) rfl ⟨?_,À ⟨hE.u,rfl,qP m,?_⟩⟩
  .exact (((q0.setCell_new φ _).setCell_new φ _).setCell_new φ _)
  .exact (qd.kept (((Ac.refl w.1.size w2).setCell (p:=⟨w.1.size,0,none⟩) rfl _ |>.setCell (p:=⟨w.1.size,1,none⟩) rfl _).setCell (p:=⟨w.1.size,2,none⟩) rfl _) ζ)
 .have hE:Hid (X=match B5 (qP m)with
   |none=>none
   |some (f,r)=>match AY r with
    |none=>none
    |some (e,r')=>some (Ce ng (d::ds++f) (e-f.length),r')):=by
   have hn:¬((decide (d::ds=[]) || pQ m 48 && decide (1<(d::ds).length))=true):=by
    rcases hz with hz|⟨_,rfl⟩
    .have h1:pQ m 48=false:=by rw[Tj hd];grind
     simp[h1]
    .simp
   show X=_;rw[qb.u,hd,if_neg hn];cases B5 (qP m)<;>rfl
  have HD:=Ab hd;have h0:=S7 d ds (FQ d ds);rw[hd];have hg:((((⟨(d::ds).toArray⟩:ByteArray)[0]'(FQ d ds)).toNat:Int)==48)=false\/((((⟨(d::ds).toArray⟩:ByteArray)[0]'(FQ d ds)).toNat:Int)==48)=true/\decide ((1:Int)<(ds.length:Int)+1)=false:=by
   rcases hz with hz|⟨rfl,rfl⟩
   .exact Å (by rw[h0];simp;intro h;exact hz (ì.1 ε))
   .exact À ⟨κ,φ⟩
  clear hd hz h0 qb;rcases hg with qh|⟨qh,gl⟩;all_goals (
   go_wp2_with fail;refine(P6 qd).mono ?_;rintro e w3⟨qm,hc⟩;have q4:=hs2.kept qm ζ;have q7:=q0.trans qm;rcases hc with⟨f,l2,e1,rfl,qe⟩|⟨e1,s,l',rfl,qe⟩;rotate_left
   .rw[e1]at hE;have s0:=q4.c0;have s1:=q4.c1;have s2:=q4.c2;have z0:=q4.fz 0;have z1:=q4.fz 1;have z2:=q4.fz 2;clear e1;go_wp2_with fail;refine Ì (v:=.tuple #[Cd (false,[],0),.bool false]) (by simp[CL,results184,go_sem,Cd,s0,s1,s2]) rfl ⟨?_,À ⟨hE.u,rfl,l',?_⟩⟩
    .exact (((q7.setCell_new φ _).setCell_new φ _).setCell_new φ _)
    .exact (qe.kept (((Ac.refl w.1.size w3).setCell (p:=⟨w.1.size,0,none⟩) rfl _ |>.setCell (p:=⟨w.1.size,1,none⟩) rfl _).setCell (p:=⟨w.1.size,2,none⟩) rfl _) ζ)
   rw[e1]at hE;have HF:=Ab e1;clear e1;go_wp2_with fail;refine(Qb qe).mono ?_;rintro e w4⟨qn,hc⟩;have q5:=q4.kept qn ζ;have q8:=q7.trans qn;rcases hc with⟨x,l3,e1,rfl,qf⟩|⟨e1,s,l',rfl,qf⟩;rotate_left
   .simp only[e1]at hE;have s0:=q5.c0;have s1:=q5.c1;have s2:=q5.c2;have z0:=q5.fz 0;have z1:=q5.fz 1;have z2:=q5.fz 2;clear e1;go_wp2_with fail;refine Ì (v:=.tuple #[Cd (false,[],0),.bool false]) (by simp[CL,results184,go_sem,Cd,s0,s1,s2]) rfl ⟨?_,À ⟨hE.u,rfl,l',?_⟩⟩
    .exact (((q8.setCell_new φ _).setCell_new φ _).setCell_new φ _)
    .exact (qf.kept (((Ac.refl w.1.size w4).setCell (p:=⟨w.1.size,0,none⟩) rfl _ |>.setCell (p:=⟨w.1.size,1,none⟩) rfl _).setCell (p:=⟨w.1.size,2,none⟩) rfl _) ζ)
   simp only[e1]at hE;have qy:=S9 e1;clear e1;have qw:f.length<=2000:=by
    have:=Fj HF.u;have:=Cw m;omega
   have qv:ds.length+1<=2000:=by
    have e1:=Cw m;rw[HD.u]at e1;grind
   have qq:¬9223372036854775807<ds.length+1+f.length:=ζ;go_wp2_with fail;have qo:(⟨(d::ds).toArray⟩:ByteArray)++⟨f.toArray⟩=⟨(d::ds++f).toArray⟩:=by
    rfl
   rw[qo];refine(Nh ng (d::ds++f) (x-f.length) w4 ζ ζ ω).mono ?_;rintro e w5⟨rfl,qj⟩;have hk5:=Ac.of_below (X:=R) qj;have qt:=q5.kept hk5 ζ;have q9:=q8.trans hk5;obtain⟨q,ha,hq⟩:=qf.kept (Ac.of_below (X:=R+1) qj) ζ;generalize hn:Ce ng (d::ds++f) (x-f.length)=n at*;obtain⟨nb,nd,ne⟩:=n;have hne:-10000000<=ne/\ne<=10000000:=by
    have hm:=SG ng (d::ds++f) (x-f.length);grind
   have c4:∀o,(w5.alloc o).cell? ⟨R,4,none⟩=some (.int .i64 fr):=λo=>(hq.alloc o).c4;have f4:∀o,(w5.alloc o).frozen? ⟨R,4,none⟩=false:=λo=>(hq.alloc o).fz 4;have q6:∀o,EL (w5.alloc o) w.1.size:=λo=>qt.kept ((Ac.refl R w5).alloc o) ζ;have s0:=λo=>(q6 o).c0;have s1:=λo=>(q6 o).c1;have s2:=λo=>(q6 o).c2;have z0:=λo=>(q6 o).fz 0;have z1:=λo=>(q6 o).fz 1;have z2:=λo=>(q6 o).fz 2;have qz:=q9.size;unfold Cd;go_wp2_with fail;go_region;go_wp2_with fail;all_goals (
    refine Ì (v:=.tuple #[Cd (nb,nd,ne),.bool true]) (by simp[CL,results184,go_sem,Cd,s0,s1,s2]) rfl ⟨?_,Å ⟨(nb,nd,ne),l3,hE.u,rfl,⟨q,ha,fS hq _ _ _ _ _ _ _ ζ ε⟩⟩⟩;exact((((((q9.alloc _).setCell (p:=⟨R,4,none⟩) rfl _).setCell_new φ _).setCell_new φ _).setCell_new φ _).drew)))
 .have hE:Hid (X=none):=by
   show X=none;rw[qb.u,hd];rfl
  rw[hd];have s0:=hs2.c0;have s1:=hs2.c1;have s2:=hs2.c2;have z0:=hs2.fz 0;have z1:=hs2.fz 1;have z2:=hs2.fz 2;clear hd;go_wp2_with fail;refine Ì (v:=.tuple #[Cd (false,[],0),.bool false]) (by simp[CL,results184,go_sem,Cd,s0,s1,s2]) rfl ⟨?_,À ⟨hE.u,rfl,qP m,?_⟩⟩
  .exact (((q0.setCell_new φ _).setCell_new φ _).setCell_new φ _)
  .exact (qd.kept (((Ac.refl w.1.size w2).setCell (p:=⟨w.1.size,0,none⟩) rfl _ |>.setCell (p:=⟨w.1.size,1,none⟩) rfl _).setCell (p:=⟨w.1.size,2,none⟩) rfl _) ζ)
theorem L8(h:RD w R t l tw dp fr):
  A2 AI 184 #[PtB R] w λe w'=>Ac R w w'/\Ws (rO l) e w' R t tw dp fr:=by
 have:=Zk h rfl rfl;unfold rO;cases hk:pQ l 45<;>simpa[hk]using this
def Dw(w:AS)(g o:Nat)(l:List By):Prop:=g<w.1.size/\∀k (hk:k<l.length),w.cell? ⟨g,o+k,none⟩=some (.string ⟨l[k].toArray⟩)
def Dl(w:AS)(v:A1)(l:List By):Prop:=
 (l=[]/\∃a c,v=.slice a 0 c/\c<=C0)\/∃g o cap,v=.slice (some ⟨g,o,none⟩) l.length cap/\l.length<=cap/\cap<=C0/\Dw w g o l
theorem Dl.bel{l:List By}(h:Dl w v l)(hb:Bl w w'):Dl w' v l:=by
 rcases h with h|⟨g,o,cap,rfl,h1,h2,hg,hc⟩
 .exact Å h
 .exact À ⟨g,o,cap,rfl,h1,h2,Õ hg hb.size,λk hk=>(hb.cell (p:=⟨g,o+k,none⟩) hg).trans (hc k hk)⟩
def AM(a:pN):List pN:=match a with
 |.agg [.lit (.int _ _),.lit (.int _ _),x]=>(match x with
  |.slice al _=>al
  |.map es=>es.map Prod.snd
  |_=>[])
 |_=>[]
def sX(a:pN)(i:Nat)(c:pN):pN:=match a with
 |.agg [.lit (.int k b),.lit (.int l g),x]=>(match x with
  |.slice al _=>.agg [.lit (.int k b),.lit (.int l g),.slice (al.set i c) []]
  |.map es=>.agg [.lit (.int k b),.lit (.int l g),.map (es.modify i λp=>(p.1,c))]
  |y=>.agg [.lit (.int k b),.lit (.int l g),y])
 |y=>y
theorem Cs(b g:Nat)(al:List pN):AM (pS b g (.slice al []))=al:=rfl
theorem Cg(b g:Nat)(es:List (Lit×pN)):AM (pS b g (.map es))=es.map Prod.snd:=rfl
theorem FM(b g k:Nat):AM (pS b g (BG k))=[]:=rfl
theorem GK(b g:Nat)(n:Nm):AM (pS b g (Bm n))=[]:=rfl
theorem GJ(b g:Nat)(s:By):AM (pS b g (Av s))=[]:=rfl
theorem SU(b g i:Nat)(al:List pN)(c:pN):sX (pS b g (.slice al [])) i c=pS b g (.slice (al.set i c) []):=rfl
theorem ST(b g i:Nat)(es:List (Lit×pN))(c:pN):sX (pS b g (.map es)) i c=pS b g (.map (es.modify i λp=>(p.1,c))):=rfl
theorem Ds{α β:Type}(q:α->List β):∀(l:List α) (i:Nat) (a:α),l[i]?=some a ->∃l1 l2,l=l1++a::l2/\l1.length=i
 |[],i,a,h=>by simp at h
 |x::r,0,a,h=>⟨[],r,ε,rfl⟩
 |x::r,i+1,a,h=>by
  obtain⟨l1,l2,e,e2⟩:=Ds q r i a ε;grind
theorem Al.app{α β:Type}{P:α->β->Prop}:∀{l:List α}{m1 m2:List β},Al P l (m1++m2) ->∃l1 l2,l=l1++l2/\Al P l1 m1/\Al P l2 m2
 |l,[],m2,h=>⟨[],l,rfl,trivial,h⟩
 |[],_::_,_,h=>h.elim
 |a::r,b::m1,m2,⟨h1,h2⟩=>by
  obtain⟨l1,l2,e,h3,h4⟩:=Al.app h2;exact⟨a::l1,l2,by rw[e];rfl,⟨h1,h3⟩,h4⟩
theorem Al.append{α β:Type}{P:α->β->Prop}:∀{l1 l2:List α}{m1 m2:List β},Al P l1 m1->Al P l2 m2->Al P (l1++l2) (m1++m2)
 |[],_,[],_,_,h=>h
 |_::_,_,_::_,_,⟨a,b⟩,h=>⟨a,Al.append b h⟩
theorem Pt.app{P:A1->pL->Prop}:∀{l:List (Lit×DataW A1)}{m1 m2:List (Lit×pL)},Pt P l (m1++m2) ->∃l1 l2,l=l1++l2/\Pt P l1 m1/\Pt P l2 m2
 |l,[],m2,h=>⟨[],l,rfl,trivial,h⟩
 |[],_::_,_,h=>h.elim
 |a::r,b::m1,m2,⟨h1,h2⟩=>by
  obtain⟨l1,l2,e,h3,h4⟩:=Pt.app h2;exact⟨a::l1,l2,by rw[e];rfl,⟨h1,h3⟩,h4⟩
theorem Pt.append{P:A1->pL->Prop}:∀{l1 l2:List (Lit×DataW A1)}{m1 m2:List (Lit×pL)},Pt P l1 m1->Pt P l2 m2->Pt P (l1++l2) (m1++m2)
 |[],_,[],_,_,h=>h
 |_::_,_,_::_,_,⟨a,b⟩,h=>⟨a,Pt.append b h⟩
theorem FL{α:Type}(q:α->α)(a:α)(l2:List α):∀l1:List α,(l1++a::l2).modify l1.length q=l1++q a::l2
 |[]=>rfl
 |x::r=>by simp only[Ü,É,List.modify_succ_cons,FL q a l2 r]
theorem Ad.kid{f i:Nat}{a c c':pN}(h:Ad (f+1) w v a)(hi:(AM a)[i]?=some c)(hn:(pM (f+1) a).Nodup)(hk:∀k∈pM (f+1) a,k∉pM f c->w'.1[k]?=w.1[k]?)(hc:∀u,Ad f w u c->Ad f w' u c'):Ad (f+1) w' v (sX a i c'):=by
 obtain⟨b,g,x,rfl,hv,h⟩:=h;rcases h with⟨k,h1,h2,rfl,h⟩|⟨n,h2,rfl,h,qd⟩|⟨s,h2,rfl,h⟩|⟨al,sl,ps,rfl,h,ho,hs,ha⟩|⟨es,n,D,rfl,h,ho,hp⟩
 .rw[FM]at hi;simp at hi
 .rw[GK]at hi;simp at hi
 .rw[GJ]at hi;simp at hi
 .rw[Cs]at hi;obtain⟨l1,l2,rfl,hl⟩:=Ds (pM f) al i c hi;rw[AU,Ĭ,ã]at hn hk;obtain⟨q1,q2,rfl,q6,q0⟩:=ha.app;cases q2 with
  |nil=>exact q0.elim
  |cons u q2=>
   obtain⟨hu,q0⟩:=q0;rw[SU,List.set_append_right _ _ ζ,show i-l1.length=0 from ζ,List.set_cons_zero];obtain⟨n1,n2⟩:=ā.1 hn;obtain⟨n3,n4,n5⟩:=č.1 n2;obtain⟨n6,n7,n8⟩:=č.1 n4;obtain⟨n9,qb,q7⟩:=č.1 n7;refine⟨b,g,_,rfl,hv,À (À (À (Å ⟨_,sl,q1++u::q2,rfl,h.kept (hk b φ λhb=>n1 ?_),Am ho λg' q8=>hk g' ?_ λhb=>?_,hs,Al.append (Al.mem (λu' d hd q4=>Ad.move (λk q5=>hk k ?_ λhb=>?_) q4) q6) ⟨hc u hu,Al.mem (λu' d hd q4=>Ad.move (λk q5=>hk k ?_ λhb=>?_) q4) q0⟩⟩)))⟩
   .grind
   .obtain⟨rfl,h0⟩:=Im hs q8;simp[h0]
   .simp_all
   .exact Ø _ (ý _ ε)
   .exact n8 k (û.2 ⟨d,hd,q5⟩) k (ħ _ hb) rfl
   .grind
   grind
 .rw[Cg]at hi;rw[Þ]at hi;obtain⟨⟨key,c2⟩,q9,rfl⟩:=à.1 hi;obtain⟨l1,l2,rfl,hl⟩:=Ds (λp=>pM f p.2) es i _ q9;rw[BC,Ĭ,ã]at hn hk;obtain⟨q1,q2,rfl,q6,q0⟩:=hp.app;cases q2 with
  |nil=>exact q0.elim
  |cons u q2=>
   obtain⟨⟨ku,xu,eu,hu⟩,q0⟩:=q0;have em:(l1++(key,c2)::l2).modify i (λp=>(p.1,c'))=l1++(key,c')::l2:=by
    rw[<-hl];exact FL _ _ _ _
   rw[ST,em];obtain⟨n1,n2⟩:=ā.1 hn;obtain⟨n3,n4⟩:=ā.1 n2;obtain⟨n6,n7,n8⟩:=č.1 n4;obtain⟨n9,qb,q7⟩:=č.1 n7;refine⟨b,g,_,rfl,hv,À (À (À (À ⟨_,n,q1++u::q2,rfl,h.kept (hk b φ λhb=>n1 ?_),A0 ho (hk g φ λhb=>n3 ?_),Pt.append (Pt.mem (λu' d hd q4=>Ad.move (λk q5=>hk k ?_ λhb=>?_) q4) q6) ⟨⟨ku,xu,eu,hc xu hu⟩,Pt.mem (λu' d hd q4=>Ad.move (λk q5=>hk k ?_ λhb=>?_) q4) q0⟩⟩)))⟩
   .grind
   .exact ý _ (ħ _ hb)
   .grind
   .grind
   .grind
   .exact q7 k hb k (û.2 ⟨d,hd,q5⟩) rfl
