import Derived.Test.YtdpomdelmdofmaaGreatDoorTie
import Derived.Test.YtdpomdelmdofmaaGreatDoorCards
import Derived.Test.YtdpomdelmdofmaaGreatDoorP23
import Derived.Test.YtdpomdelmdofmaaGreatDoorP25
open Go.Proofs.Tryz renaming prog->AI
open Go renaming Value->AS,DataW->A4,TypeId->B4,MemPlace->CL,laidMetH->CR,World->C2
open Go.DataW renaming TrodAll->AT,trod_bool->C1,trod->C5,Trod->C6,Whole->D0
open Go.World renaming var?_cell->A3,block_lt_of_cell?->B2,cells?_some->C0
open List renaming getElem?_range->A5,range->CH
open Go.MakeChecks renaming laidMetH_plain->Bs
open Go.OpenSpec renaming ofChange->BY
open Go.Value.slice renaming injEq->B1
open Go.Value renaming okWide->B3,cells->CD,int->DD
open Go.Lib renaming BuilderAt->DA
set_option maxRecDepth 100000
set_option maxHeartbeats 16000000
namespace Go.Proofs.YtdpomdelmdofmaaGreatDoor
open Go.Proofs.Tryz Go.ChangeShapes Go.WideShapes Go.ChangeAt Go.RowKit Go.Deep Go.Maps
variable{w W w':C2}{base B b:Nat}{held:Bool}{v:AS}{sp:Nat->Bool}{p:List CL}{d:Int}{F:Nat->Prop}
theorem own:ownKnob Tryz.prog.godebug=none:=δ
theorem gJ:laidOutB AI=true:=δ
theorem ZI:(match Rows.laid_unicode_utf8_acceptRanges (H:=Unit)with|.agg ds=>ds.flatMap FC|_=>[])=(CH 32).map (λj=>DD .u8 (((if j % 2=0 then Lib.accLo (j / 2)else Lib.accHi (j / 2)):Nat):Int)):=δ
theorem Uy:(match Rows.laid_unicode_utf8_first with|.agg ds=>ds.flatMap Ey|_=>[])=(CH 256).map (λc=>DD .u8 ((Lib.firstT c:Nat):Int)):=δ
theorem ZF:(match Rows.laid_internal_strconv_uint64pow10 (H:=Unit)with|.agg ds=>ds.flatMap Ey|_=>[])=Lib.pow10Tab.map λz=>DD .u64 z:=δ
theorem Uw:(match Rows.laid_amend_text_words (H:=Unit)with|.agg ds=>ds.flatMap Ey|_=>[])=CU.toList:=δ
theorem ZH:(match Rows.laid_amend_text_escapes (H:=Unit)with|.agg ds=>ds.flatMap FC|_=>[])=CP.toList:=δ
theorem WL:(match Rows.laid_amend_pointer_escapes (H:=Unit)with|.agg ds=>ds.flatMap FC|_=>[])=FJ.toList:=δ
theorem DZ{H:Type}{enc:B4×AS->H}{P:Program}{spare:Nat->Bool}{q0:Nat}{t e n:Nat}{cs:List AS}{d:A4 H}{q:List CL}(ht:P.underlying t=some (.array n e))(hc:P.cellsOf t=n*P.cellsOf e)(F:A4 H->List AS)(hF:∀m l d p,C5 enc P w base spare held m e l=some (d,p)->l=F d)(h:C5 enc P w base spare held q0 t cs=some (d,q)):cs=(match d with|.agg ds=>ds.flatMap F|_=>[]):=by
 obtain⟨xs,_,_,ex,_⟩:=DataW.trod_array ht h;obtain rfl:=(ĺ ex).1;exact RJ ht hc F hF h
def OW{H:Type}:A4 H->List AS
 |.agg [.lit (.string s),.lit (.bool a),.lit (.bool b)]=>[.string ⟨s.toArray⟩,.bool a,.bool b]
 |_=>[]
theorem Wt{H:Type}{enc:B4×AS->H}{P:Program}{spare:Nat->Bool}{e:Nat}{f0 f1 f2:Field}(he:P.underlying e=some (.struct #[f0,f1,f2]))(ce:P.cellsOf e=3)(o0:f0.offset=0)(o1:f1.offset=1)(o2:f2.offset=2)(u0:P.underlying f0.type=some .string)(u1:P.underlying f1.type=some .bool)(u2:P.underlying f2.type=some .bool)(c0:P.cellsOf f0.type=1)(c1:P.cellsOf f1.type=1)(c2:P.cellsOf f2.type=1):
  ∀m l d p,C5 enc P w base spare held m e l=some (d,p)->l=OW d:=by
 intro m l d p h;obtain⟨xs,m',_,ex,hl,hn,q0⟩:=DataW.trod_struct he h;rw[ce]at hl
 match l,hl,xs,hn with
 |[v0,v1,v2],_,[y0,y1,y2],_=>
  have g0:=q0 0 f0 rfl;have g1:=q0 1 f1 rfl;have g2:=q0 2 f2 rfl;simp[o0,o1,o2,c0,c1,c2]at g0 g1 g2;obtain⟨z0,e0,x0,_⟩:=Ļ u0 g0;obtain⟨z1,e1,x1⟩:=C1 u1 g1;obtain⟨z2,e2,x2⟩:=C1 u2 g2;simp only[Prod.mk.injEq]at ex;simp only[đ,and_true]at e0 e1 e2;simp[ex.1,e0,e1,e2,x0,x1,x2,OW]
theorem WK:(match Rows.laid_amend_patch_operations (H:=Unit)with|.agg ds=>ds.flatMap OW|_=>[])=C8.toList:=δ
theorem ZG(h:CR AI Rows.prefixRow.laid W):Jy W:=by
 rw[Bs _ _ _ δ]at h;obtain⟨ps,hv,_,_⟩:=h;obtain⟨_,_,_,_,_,_,_,_,_,_,hv,_⟩:=hv;obtain⟨_,_,_,_,_,_,_,_,_,_,hv,_⟩:=hv;obtain⟨_,_,_,_,_,_,_,_,_,_,hv,_⟩:=hv;obtain⟨_,_,_,_,_,_,_,_,_,_,hv,_⟩:=hv;obtain⟨_,_,_,_,_,_,_,_,_,_,hv,_⟩:=hv;obtain⟨_,_,_,_,_,_,_,_,_,_,hv,_⟩:=hv;obtain⟨_,_,_,_,_,_,_,_,_,_,hv,_⟩:=hv;obtain⟨_,_,_,_,_,_,_,_,_,_,hv,_⟩:=hv;obtain⟨_,_,_,_,_,_,_,_,_,_,hv,_⟩:=hv;obtain⟨g8,t8,c8,_,_,_,q0,q5,q6,q4,hv,_⟩:=hv;obtain rfl:=Î ((show Tryz.prog.globalNamed "amend/patch.operations" = some 3 by kernel_rfl).symm.trans q0);obtain rfl:=Î ((show(Tryz.prog.globals[3]?).map (·.type)=some 220 from δ).symm.trans q5);have e8:=(DZ underlying220 δ OW (Wt underlying219 δ rfl rfl rfl underlying9 underlying4 underlying4 δ δ δ) q4).trans WK;obtain⟨t,fr,e⟩:=Fp q0 q6 e8;exact⟨t,fr,ζ⟩
theorem Ux(h:CR AI Rows.prefixRow.laid W)(qd:W.ShapedOpen AI):Aj W:=by
 have q4:=ZG h;rw[Bs _ _ _ δ]at h;obtain⟨ps,hv,_,_⟩:=h;obtain⟨_,_,_,_,_,_,_,_,_,_,hv,_⟩:=hv;obtain⟨g6,_,c6,_,_,_,q8,_,z1,_,hv,_⟩:=hv;obtain⟨g1,t1,c1,_,_,_,q6,qn,qw,qf,hv,_⟩:=hv;obtain⟨g4,t4,c4,_,_,_,q0,qr,qb,qi,hv,_⟩:=hv;obtain⟨g5,t5,c5,_,_,_,q7,qt,z0,qj,hv,_⟩:=hv;obtain⟨_,_,_,_,_,_,_,_,_,_,hv,_⟩:=hv;obtain⟨g7,t7,c7,_,_,_,q9,qu,z2,qk,hv,_⟩:=hv;obtain⟨g0,t0,c0,_,_,_,q5,qm,qv,qe,hv,_⟩:=hv;obtain⟨g2,t2,c2,_,_,_,hg2,qo,qy,qg,hv,_⟩:=hv;obtain⟨_,_,_,_,_,_,_,_,_,_,hv,_⟩:=hv;obtain⟨g3,t3,c3,_,_,_,hg3,qq,qz,qh,_,_⟩:=hv;obtain rfl:=Î ((show Tryz.prog.globalNamed "math/bits.deBruijn64tab" = some 11 by kernel_rfl).symm.trans q8);obtain rfl:=Î ((show Tryz.prog.globalNamed "internal/strconv.uint64pow10" = some 5 by kernel_rfl).symm.trans q6);obtain rfl:=Î ((show Tryz.prog.globalNamed "unicode/utf8.acceptRanges" = some 2 by kernel_rfl).symm.trans q0);obtain rfl:=Î ((show Tryz.prog.globalNamed "amend/text.words" = some 0 by kernel_rfl).symm.trans q5);obtain rfl:=Î ((show Tryz.prog.globalNamed "amend/text.escapes" = some 7 by kernel_rfl).symm.trans hg2);obtain rfl:=Î ((show Tryz.prog.globalNamed "unicode/utf8.first" = some 1 by kernel_rfl).symm.trans hg3);obtain rfl:=Î ((show Tryz.prog.globalNamed "strconv.ErrRange" = some 9 by kernel_rfl).symm.trans q7);obtain rfl:=Î ((show Tryz.prog.globalNamed "amend/pointer.escapes" = some 4 by kernel_rfl).symm.trans q9);obtain rfl:=Î ((show(Tryz.prog.globals[9]?).map (·.type)=some 162 from δ).symm.trans qt);obtain rfl:=Î ((show(Tryz.prog.globals[4]?).map (·.type)=some 256 from δ).symm.trans qu);obtain rfl:=Î ((show(Tryz.prog.globals[5]?).map (·.type)=some 312 from δ).symm.trans qn);obtain rfl:=Î ((show(Tryz.prog.globals[2]?).map (·.type)=some 210 from δ).symm.trans qr);obtain rfl:=Î ((show(Tryz.prog.globals[0]?).map (·.type)=some 165 from δ).symm.trans qm);obtain rfl:=Î ((show(Tryz.prog.globals[7]?).map (·.type)=some 335 from δ).symm.trans qo);obtain rfl:=Î ((show(Tryz.prog.globals[1]?).map (·.type)=some 207 from δ).symm.trans qq);have e1:=(DZ underlying312 δ Ey (Of underlying252) qf).trans ZF;have e4:=(DZ underlying210 δ FC (NT underlying209 δ rfl rfl underlying5 underlying5 δ δ) qi).trans ZI;have e0:=(DZ underlying165 δ Ey (Pf underlying9) qe).trans Uw;have e2:=(DZ underlying335 δ FC (NT underlying334 δ rfl rfl underlying5 underlying21 δ δ) qg).trans ZH;have e3:=(DZ underlying207 δ Ey (Of underlying5) qh).trans Uy;have e7:=(DZ underlying256 δ FC (TK underlying255 δ rfl rfl underlying9 underlying5 δ δ) qk).trans WL;obtain⟨_,te,pe,e5,_⟩:=iface_of_trod underlying162 qj;refine⟨?_,?_,?_,⟨λc hc=>?_,λi hi=>⟨?_,?_⟩⟩,?_,?_,?_,?_,q4⟩
 .obtain⟨t,fr,e⟩:=Fp q8 z1 rfl;grind
 .obtain⟨t,fr,e⟩:=Fp hg2 qy e2;simp_all
 .obtain⟨t,fr,e⟩:=Fp q5 qv e0;simp_all
 .rw[A3 hg3 qz,<-ĵ,e3,Þ,A5 hc];rfl
 .rw[A3 q0 qb,<-ĵ,e4,Þ,A5 ζ,Ċ,if_pos ζ,show 2*i / 2=i from ζ]
 .rw[A3 q0 qb,<-ĵ,e4,Þ,A5 ζ,Ċ,if_neg ζ,show(2*i+1) / 2=i from ζ]
 .exact Fp q6 qw e1
 .obtain⟨t,fr,e⟩:=Fp q9 z2 e7;exact⟨t,fr,ζ⟩
 .refine⟨.iface te pe,?_,À ⟨te,pe,rfl⟩⟩;rw[A3 q7 z0,<-ĵ,e5];rfl
 .exact cell_of_shapedOpen_int (k:=.i64) (t:=3) (zero:=#[.int .i64 0]) qd ε δ rfl δ δ underlying3
section
variable{H:Type}{enc:B4×AS->H}{P:Program}
theorem Ox(hl:laidOutB P=true){W W':C2}(hb:Bl W W'){sp:Nat->Bool}:∀{ts:List B4}{vs:List AS}{ds:List (A4 H)}{ps:List CL},(∀t∈ts,P.readableRec t=true/\t<P.types.size) ->
  AT enc P W 0 (λ_=>true) true ts vs ds ps->(∀x∈ps,x.block<W.1.size)->(∀x∈ps,sp x.block=true)->AT enc P W' 0 sp true ts vs ds ps
 |[],_,_,_,_,h,_,_=>by
  obtain⟨rfl,rfl,rfl⟩:=trodAll_nil h;rfl
 |t::ts,_,_,_,hr,h,hlt,hs=>by
  obtain⟨v,q6,d,q5,a,b,rfl,rfl,rfl,h1,h2⟩:=trodAll_cons h;obtain⟨q0,q4⟩:=hr t â;exact trodAll_cons_mk (WideElems.Trod_stays hl q0 q4 h1 (λx hx=>hb.same (hlt x (ħ _ hx))) (λx hx=>hs x (ħ _ hx)))
   (Ox hl hb (λt ht=>hr t (Ø _ ht)) h2 (λx hx=>hlt x (ý _ hx)) (λx hx=>hs x (ý _ hx)))
theorem OG{f:Func}{s:ChangeSpec}{apart q6 q4 q5:Bool}{W':C2}{args:Array AS}{ds gs:List (A4 H)}{q0:List CL}(hl:laidOutB P=true)(hr:∀t∈f.params.toList,P.readableRec t=true/\t<P.types.size)(qg:s.vars=[])(hW:D0 enc P f.params.toList s.vars apart W args.toList ds gs q0)(hb:Bl W W')(q8:∀(b:Nat) (sp:Nat->Bool) (hd:Bool),AT enc P W' b sp hd f.resultTypes.toList (v.resultList f.resultTypes.size) (s.fn H (ds++gs)).results [])(q7:(s.fn H (ds++gs)).args=ds)(q9:(s.fn H (ds++gs)).vars=[])(hok:∀(j:Nat) (t:B4) (r:AS),f.resultTypes[j]?=some t->(v.resultList f.resultTypes.size)[j]?=some r->B3 P W' .any 0 t r):
  s.post enc P f apart q6 q4 q5 W args v W':=by
 have hlt:∀p∈q0,p.block<W.1.size:=λp hp=>by simpa using hW.lt p hp
 have hold:∀p∈q0,(λb=>decide (b<W.1.size)) p.block=true:=ε;have qi:=hW;obtain⟨p,q,qh,hV,qf,hz,hn⟩:=qi;have hA:AT enc P W 0 (λ_=>true) true f.params.toList args.toList ds p:=qh;rw[qg]at hV;obtain⟨rfl,rfl⟩:=trodVars_none hV;rw[ĉ]at qf;subst qf;have qb:∀sp:Nat->Bool,(∀p∈q0,sp p.block=true)->AT enc P W' 0 sp true f.params.toList args.toList (s.fn H (ds++[])).args q0:=λsp hs=>by
  rw[q7];exact Ox hl hb hr hA hlt hs
 have qd:∀sp:Nat->Bool,DataW.TrodVars enc P W' sp s.vars (s.fn H (ds++[])).vars []:=λsp=>by rw[qg,q9];exact rfl
 refine⟨ds,[],q0,[],q0,[],hW,q8 _ _ _,qb _ hold,qd _,hb.frame _,λ_=>?_⟩;refine⟨hok,_,_,([]++q0)++[],⟨[]++q0,[],trodAll_append (qb _ (λ_ _=>rfl)) (q8 _ _ _),qd _,rfl,?_,?_⟩,?_⟩
 .intro b off hp;have qe:MemPlace.cell b off∈q0:=ε;rw[hb.frozen (p:=⟨b,off,none⟩) (hlt _ qe)];exact hz b off qe
 .grind
 grind
end
theorem oC{H:Type}{enc:B4×AS->H}{C:Checked}{os:Os}{f:FuncId}{fn:Func}{s:ChangeSpec}{q7:List PathCond}{apart q8 q4 q6:Bool}{laid:List (String×A4 Unit)}(own:ownKnob C.prog.godebug=none)(q5:os.Started)(q9:C.prog.inits.idxOf? f=none)(qb:C.prog.funcs[f]?=some fn)(qd:∃(w:C2) (tape:Tape) (i:Input),w.os=os/\(w.forCall tape i).Shaped C.prog/\i.vars=[]/\Input.okWide C.prog (w.forCall tape i) .any w.1.size f i/\
   ((s.pre enc C.prog fn q7 apart (w.forCall tape i).memory i.args/\CR C.prog laid (w.forCall tape i).memory)/\sizedMet enc C.prog fn (BY s) apart (w.forCall tape i).memory i.args)/\({}:Assume).holds C.prog (lone (Frame.enter C.prog f i.args .normal) [] (w.forCall tape i)))(go:∀(W:C2) (base:Nat) (args:Array AS) (ds gs:List (A4 H)) (q0:List CL),(∀(j:Nat) t v,fn.params[j]?=some t->args[j]?=some v->B3 C.prog W .any base t v) ->
   D0 enc C.prog fn.params.toList s.vars apart W args.toList ds gs q0->(DataW.weightsEach C.prog (fn.params.toList++s.plain.varTypes C.prog) (ds++gs)).all (· <= reachBytes)=true->CR C.prog laid W->W.ShapedOpen C.prog ->
   Calls C.prog f args W λe W'=>∃v,e=.returned v/\s.post enc C.prog fn apart q8 q4 q6 W args v W'):
  ReturnsInHanded {} C os f .any (λw args=>(s.pre enc C.prog fn q7 apart w args/\CR C.prog laid w)/\sizedMet enc C.prog fn (BY s) apart w args) (s.post enc C.prog fn apart q8 q4 q6):=
 returnsInHanded_of_row (s:=BY s) (F:=λ_ _ _=>0) own q5 q9 qb qd λW base args ds gs q0 h1 h2 _ _ h5 h6 h7 _=>go W base args ds gs q0 h1 h2 h5 h6 h7
theorem Ri{H:Type}{enc:B4×AS->H}{b0:Nat}{r:Reach}{d:A4 H}(q8:B3 AI W r b0 24 v)(h:C6 enc AI W base sp held 24 v d p):
  (∃pa cap,v=.slice pa 0 cap/\(pa=none->cap=0)/\cap<=maxLen)\/
  ∃(sb so m cap:Nat) (l:List St) (elems spare:List (A4 H)),v=.slice (some ⟨sb,so,none⟩) m cap/\m=l.length/\m<=cap/\cap<=maxLen/\Scr W sb so l/\sb<W.1.size/\d=.slice elems spare/\elems.length=m:=by
 obtain⟨a0,q0,q6,rfl⟩:=okWide_slice underlying24 q8;obtain⟨qb,hf⟩:=h;have ce:Tryz.prog.cellsOf 49=3:=δ;have c3:Tryz.prog.cellsOf 3=1:=δ;have c9:Tryz.prog.cellsOf 9=1:=δ;rcases open_slice underlying24 hf with⟨q5,_⟩|⟨a,len,cap,m,n,D,Pl,q5,hb,hl,hm,qh,hx,qd⟩
 .simp only[CD,đ,B1,and_true]at q5;grind
 simp only[CD,đ,B1,and_true]at q5;obtain⟨rfl,rfl,rfl⟩:=q5;rcases Nat.eq_zero_or_pos q0 with rfl|hpos
 .grind
 right;have qg:q0<=m:=ε;have each:∀i,i<q0 ->∃q:St,W.cell? (a.add (i*3))=some (.int .i64 q.1)/\W.cell? (a.add (i*3+1))=some (.string ⟨q.2.1.toArray⟩)/\W.cell? (a.add (i*3+2))=some (.string ⟨q.2.2.toArray⟩):=by
  intro i hi;obtain⟨q9,h1,h2⟩:=qd i ζ;rw[ce]at h1;obtain⟨_,q7,q4⟩:=C0 h1;obtain⟨y0,y1,y2,k,_,_,g0,g1,g2⟩:=trod_struct3 underlying49 h2
  match q9,q7 with
  |[v0,v1,v2],_=>
   simp[c3,c9]at g0 g1 g2;obtain⟨z,e0,_,_⟩:=Ĳ underlying3 g0;obtain⟨s1,e1,_,_⟩:=Ļ underlying9 g1;obtain⟨s2,e2,_,_⟩:=Ļ underlying9 g2;simp only[đ,and_true]at e0 e1 e2;subst e0;subst e1;subst e2;have k0:=q4 0 ζ;have k1:=q4 1 ζ;have k2:=q4 2 ζ;rw[add_add]at k0 k1 k2;exact⟨(z,s1.data.toList,s2.data.toList),ε,κ,κ⟩
 obtain⟨q,hq⟩:=choose_lt each;obtain⟨h0,_,_⟩:=hq 0 hpos;have hs:=World.cell?_spot h0;have hlt:=B2 W _ h0;obtain⟨b,o,qf⟩:=a;simp[Addr.add]at hs hlt;subst hs;refine⟨b,o,q0,q6,(CH q0).map λi=>q i,_,_,rfl,φ,hl,hm,λi hi=>?_,hlt,(ĺ hx).1,φ⟩;have qe:i<q0:=ε;obtain⟨k0,k1,k2⟩:=hq i qe;rw[add_plain]at k0 k1 k2;grind
theorem Rj{H:Type}{enc:B4×AS->H}{b0:Nat}{r:Reach}{d:A4 H}(q0:B3 AI W r b0 23 v)(h:C6 enc AI W base sp held 23 v d p):
  ∃a b c:Int,v=.agg #[.int .i64 a,.int .i64 b,.int .i64 c]:=by
 have ce:Tryz.prog.cellsOf 23=3:=δ;have c3:Tryz.prog.cellsOf 3=1:=δ;obtain⟨cs,rfl,hsz⟩:=okWide_struct underlying23 q0;obtain⟨q4,hf⟩:=h;obtain⟨y0,y1,y2,k,_,_,g0,g1,g2⟩:=trod_struct3 underlying23 hf;rw[ce]at hsz;obtain⟨l⟩:=cs
 match l,hsz with
 |[v0,v1,v2],_=>
  simp[c3,CD]at g0 g1 g2;obtain⟨z0,e0,_,_⟩:=Ĳ underlying3 g0;obtain⟨z1,e1,_,_⟩:=Ĳ underlying3 g1;obtain⟨z2,e2,_,_⟩:=Ĳ underlying3 g2;grind
theorem bT{H:Type}{d:A4 H}{l:List (A4 H)}(h:d∈l):Rows.uptoBulk d<=Rows.uptoBulkAll l:=by
 induction l with
 |nil=>cases h
 |cons x r ih=>
  grind [Rows.uptoBulkAll]
theorem bQ{H:Type}(d:A4 H):1<=Rows.uptoBulk d:=by
 cases d with
 |lit l=>cases l<;>simp[Rows.uptoBulk]
 |nil=>simp[Rows.uptoBulk]
 |ptr d=>simp[Rows.uptoBulk]
 |slice elems spare=>simp[Rows.uptoBulk]
 |agg parts=>simp[Rows.uptoBulk]
 |iface t d=>simp[Rows.uptoBulk]
 |map entries=>simp[Rows.uptoBulk]
 |held h=>simp[Rows.uptoBulk]
theorem bU{H:Type}(l:List (A4 H)):l.length<=Rows.uptoBulkAll l:=by
 induction l with
 |nil=>grind
 |cons x r ih=>have:=bQ x;grind [Rows.uptoBulkAll,List.length_cons]
theorem bS{H:Type}(a c:A4 H)(s:List UInt8):s.length<=Rows.uptoBulk (.agg [a,.lit (.string s),c]:A4 H):=by
 grind [Rows.uptoBulk,Rows.uptoBulkAll]
theorem Pk{H:Type}{enc:B4×AS->H}{sb so m cap:Nat}{l:List St}{elems spare:List (A4 H)}(h:C6 enc AI W base sp held 24 (.slice (some ⟨sb,so,none⟩) m cap) (.slice elems spare) p)(hs:Scr W sb so l)(hm:m=l.length):∀o∈l,o.2.1.length<=Rows.uptoBulkAll elems:=by
 obtain⟨q9,hf⟩:=h;have ce:Tryz.prog.cellsOf 49=3:=δ;have c3:Tryz.prog.cellsOf 3=1:=δ;have c9:Tryz.prog.cellsOf 9=1:=δ;rcases open_slice underlying24 hf with⟨q4,_⟩|⟨a,len,q7,m',n,D,Pl,q4,hb,hl,qe,qi,hx,qb⟩
 .grind
 simp only[CD,đ,B1,and_true]at q4;obtain⟨ha,rfl,rfl⟩:=q4;obtain rfl:(⟨sb,so,none⟩:Addr)=a:=Î ha;have qd:elems=(CH m).map D:=by
  grind
 have qh:m<=m':=ε;intro o ho;obtain⟨i,hi,qg⟩:=Ĺ.1 ho;have qf:i<m:=ζ;obtain⟨q8,h1,h2⟩:=qb i ζ;rw[ce]at h1;obtain⟨_,q5,q0⟩:=C0 h1;obtain⟨y0,y1,y2,k,hy,_,g0,g1,g2⟩:=trod_struct3 underlying49 h2
 match q8,q5 with
 |[v0,v1,v2],_=>
  simp[c3,c9]at g0 g1 g2;obtain⟨s1,e1,x1,_⟩:=Ļ underlying9 g1;simp only[đ,and_true]at e1;subst e1;have k1:=q0 1 ζ;rw[add_add,add_plain]at k1;obtain⟨_,q1,_⟩:=hs i ζ;have k2:W.cell? ⟨sb,so+i*3+1,none⟩=some (.string s1):=ε;rw[q1]at k2;have e2:s1.data.toList=o.2.1:=by
   grind
  have hD:D i=.agg [y0.1,.lit (.string o.2.1),y2.1]:=by
   grind
  have q6:D i∈elems:=ε;exact Ã (by rw[hD];exact bS _ _ _) (bT q6)
theorem Q8{E:Nat}{x n:Int}{p:Addr}{q:AS}{o:O}(s t:By)(hn:s.length<=1048576)(h:EB w E d x n (.pointer (some p)) q)(qi:Ar top F w (.pointer (some p)) o)(z2:qM top o)(hl:(pP top (pO top o)).length<=80000)(hd:1<=d/\d<=20)(hx:0<=x/\x<=400)(hT:Aj w):
  CB 48 #[PtB E,.string ⟨s.toArray⟩,.string ⟨t.toArray⟩] w (InB (tK d x (pO top o) s t)):=by
 obtain⟨RR,qq⟩:∃RR,RR=tK d x (pO top o) s t:=⟨_,rfl⟩
 rw[<-qq];have qj:=Ab qq;have z0:=Ab (Hz s ζ w);have z7:=Ab (λks (h:qX s=some ks)=>Gx h);have HE:=Ab h;have qh:=Ab qi;have qw:=Ab z2;have HL:=Ab hl;have HT:=Ab hT;have qv:=Ab (ð hd hx);clear h qi z2 hl hT qq hd hx;go_enter func48,ntmps48;go_wp2_with fail;refine z0.u.mono ?_;rintro e w1⟨he,hb1⟩;have E1:=Ab (HE.u.low hb1);have R1:=Ab (qh.u.below hb1);have T1:=Ab (HT.u.below (hb1.mono HT.u.ng));have qm:=Ab hb1;clear hb1 HE qh HT z0;obtain⟨ks,ok,lv,rfl,z4,q0⟩:∃(ks:List By) (ok:Bool) (lv:AS),e=.returned (.tuple #[lv,.bool ok])/\Bk w1 lv ks/\((ok=true/\qX s=some ks)\/(ok=false/\ks=[]/\qX s=none)):=by
  cases htk:qX s with
  |none=>
   rw[htk]at he;exact⟨[],false,_,he,Å ⟨rfl,none,0,rfl⟩,ε⟩
  |some ks=>
   rw[htk]at he;obtain⟨lv,h1,h2,_⟩:=he;grind
 have qz:=Ab z4;have qy:=Ab q0;clear he z4 q0;go_wp2_with fail;refine(LR t E1.u qv.u.1 qv.u.2).mono ?_;rintro e w2⟨hb2,hcase⟩;have E2:=Ab (E1.u.low hb2);have R2:=Ab (R1.u.below hb2);have T2:=Ab (T1.u.below (hb2.mono T1.u.ng));have z1:=Ab (qz.u.bel hb2);have qn:=Ab (qm.u.trans (hb2.mono qm.u.size));have z3:(∀t∈ks,t.length<=1048576):=by
  rcases qy.u with⟨_,h⟩|⟨_,h,_⟩
  .exact λt ht=>Ã ((z7.u ks h).2 t ht) hn
  grind
 have z6:=Ab z3;obtain⟨px,cx,rfl,q9⟩:∃(px:Option Addr) (cx:Nat),e=.returned (.tuple #[.pointer px,InB cx])/\((0<cx/\qB t d x=(cx,none))\/(cx=0/\∃p' o',px=some p'/\qB t d x=(0,some (pO top o'))/\Ar top (λk=>w1.1.size<=k) w2 (.pointer (some p')) o'/\qM top o')):=by
  grind
 have q6:=Ab q9;have e3:=E2.u.c3;clear hb2 hcase q9 z3 E1 R1 T1 qz qm;go_wp2_with fail;refine(Hf (F:=F) ks z6.u top o w2 (.pointer (some p)) lv R2.u qw.u (Ã HL.u η) z1.u).mono ?_;rintro e w3⟨ho,hb3⟩;have T3:=Ab (T2.u.below (hb3.mono T2.u.ng));have qf:=Ab (qn.u.trans (hb3.mono qn.u.size));have qb:=Ab (q6.u.imp id λ⟨a,p',o',b,c,dd,e⟩=>(⟨a,p',o',b,c,dd.below hb3,e⟩:cx=0/\∃p' o',px=some p'/\qB t d x=(0,some (pO top o'))/\Ar top (λk=>w1.1.size<=k) w3 (.pointer (some p')) o'/\qM top o'));clear hb3 T2 R2 E2 qn e3 z1 q6;obtain⟨u,cf,rfl,q8⟩:∃(u:AS) (cf:Nat),e=.returned (.tuple #[u,InB cf])/\((cf=0/\∃y f',f'+ks.length=top/\qM f' y/\Ar f' F w3 u y/\Ag (pO top o) ks=.ok (pO f' y))\/((cf=11\/cf=12)/\Ag (pO top o) ks=.error cf)):=by
  rcases I1 ks top o qw.u with⟨y,f',h1,h2,h3,h4⟩|⟨c,hc,h1,h2⟩
  .rw[h1]at ho;obtain⟨u,f2,h5,hf2,z5⟩:=ho;grind
  .rw[h1]at ho;exact⟨_,c,ho,À ⟨hc,h2⟩⟩
 have qg:=Ab q8;clear ho q8;rcases qy.u with⟨rfl,q0⟩|⟨rfl,rfl,q0⟩;rotate_left
 .have HF:=Ab (show RR=9 by rw[qj.u,O9 q0]);clear q0;go_wp2;go_ret;exact⟨by rw[HF.u];rfl,qf.u⟩
 rcases qb.u with⟨hpos,qe⟩|⟨rfl,p',o',rfl,qe,q4,qd⟩
 .have HF:=Ab (show RR=cx by rw[qj.u,RM q0 qe]);have e0:((cx:Int)!=0)=true:=ε;clear q0 qe hpos;go_wp2;go_ret;exact⟨by rw[HF.u];rfl,qf.u⟩
 rcases qg.u with⟨rfl,y,f',z9,qr,qt,hfd⟩|⟨z8,hfd⟩;rotate_left
 .have HF:=Ab (show RR=cf by rw[qj.u,RL q0 qe hfd]);have e0:((cf:Int)!=0)=true:=ε;clear q0 qe hfd z8 q4 qd;go_wp2;go_ret;exact⟨by rw[HF.u];rfl,qf.u⟩
 have HF:=Ab (show RR=if veq (pO f' y) (pO top o')=true then 0 else 14 by rw[qj.u,Vy q0 qe hfd]);have qk:f'<=top:=ζ;have q5:=JT top F _ w3 u (.pointer (some p')) y o' (qt.up qk) q4 (goO.up qr qk) qd;rw[FB f' top y qr qk]at q5;have q7:=Ab q5;obtain⟨ub,za,_⟩:=qt.ptr;subst za;clear q0 qe hfd q4 qd qr qt z9 qk q5;go_wp2_with fail;refine q7.u.mono ?_;rintro e w4⟨rfl,hb4⟩;have qu:=Ab (qf.u.trans (hb4.mono qf.u.size));clear hb4 q7;cases hq:veq (pO f' y) (pO top o')with
 |false=>
  have qo:=Ab (show RR=14 by rw[HF.u,hq,if_neg η]);clear hq;go_wp2;go_ret;exact⟨by rw[qo.u];rfl,qu.u⟩
 |true=>
  have qo:=Ab (show RR=0 by rw[HF.u,hq,if_pos rfl]);clear hq;go_wp2;go_ret;exact⟨by rw[qo.u];rfl,qu.u⟩
theorem Jy.below(h:Jy w)(hb:Bl w w'):Jy w':=by
 obtain⟨t,fr,e⟩:=h;exact⟨t,fr,(hb.block _ ε).trans e⟩
theorem TB{x:Int}(h1:0<=x)(h2:x<=1000):IntKind.i64.wrap x=x:=by grind [IntKind.wrap_i64]
theorem QI{p:AS}{e:Int}{A:rD}{v':pL×rA}{w3:C2}(a b c:AS)(hk:Aw (λk=>F k/\k<w.1.size) w w3)(hd:BN w3 (FN (λk=>F k/\k<w.1.size) (w.1.size+1)) p d e (some v')):
  Fc F p d e (A,v') w (.returned (Ay A)) (((w3.setCell ⟨w.1.size,0,none⟩ a).setCell ⟨w.1.size,1,none⟩ b).setCell ⟨w.1.size,2,none⟩ c):=by
 have hs:=Bo.of3 w.1.size w3 a b c;refine⟨rfl,(hs.kept hk (Á _)).mono λk h=>h.1,hd.move λk hk q0=>⟨hs.block k ?_,?_⟩⟩
 .omega
 grind
theorem TJ{S:Nat}{e n:Int}{p:AS}{v:pL×rA}{s:By}(qi:rT d e n=true)(hF:∀k,F k->NG<=k/\k≠S)(hS:SB w S d e n p)(hD:BN w F p d e (some v))(hT:Aj w)(hO:Jy w):
  Calls AI 59 #[PtB S,.string ⟨s.toArray⟩] w (Fc F p d e (tO d e v s) w):=by
 obtain⟨zm,zn⟩:1<=d/\d<=20:=by
  unfold rT rU at qi;grind
 have zb:=hD;obtain⟨D,R,wp,rfl,zc⟩:=hD;have qj:=zc.move (F':=λk=>F k/\k<w.1.size) (λk h1 h2=>⟨rfl,h1,h2⟩);obtain⟨W0,qf⟩:∃W0,W0=w.alloc (.cells #[InB 0,InB 0,.string ⟨#[]⟩] 46):=⟨_,rfl⟩
 have qh:Bl w W0:=by rw[qf];exact(Â _ _).alloc (Á _) _
 have ze:W0.1.size=w.1.size+1:=κ;have qg:AB W0 w.1.size:=by rw[qf];exact AB.new w
 have qu:=Ab qj;have zq:=Ab zb;have HF:=Ab hF;have z4:=Ab qh;have z7:=Ab ze;have qb:=Ab qg;have qw:=Ab (hT.below (qh.mono hT.ng));have zh:=Ab (hO.below qh);have qr:=hS.low qh;have c0:=qr.c0;have c1:=qr.c1;have zl:=Ab qr;have z3:IntKind.i64.wrap (d+2)=d+2:=TB ζ ζ;have HR:=Ab (λ(w9:C2) (hT:Aj w9)=>Ty s (d+2) e w9 hT);rw[<-z3]at HR;have za:=Ab z3;clear z3;obtain⟨RR,qy⟩:∃RR,RR=tO d e v s:=⟨_,rfl⟩
 rw[<-qy];have qv:=Ab qy;have z9:=Ab qf;rw[qf]at c0 c1;clear qi hF hS zb zc qj hT hO qh ze qg qr qy qf;have zu:1<=d:=zm;go_enter func59,ntmps59;go_upto_region 1 with(fail)
 rw[<-z9.u];rw[<-z9.u]at c0 c1;go_cut [5,6] (λs5 s6 wx=>∃(p2:Option Addr) (c:Nat),s5=.pointer p2/\s6=InB c/\Hid (Bl W0 wx)/\Hid ((0<c/\qB s (IntKind.i64.wrap (d+2)) e=(c,none))\/(c=0/\∃v,qB s (IntKind.i64.wrap (d+2)) e=(0,some v)/\Tr top W0.1.size wx (.pointer p2) v)))
 case first=>
  go_region_with (go_at_call 77;refine(HR.u _ ?_).mono ?_;exact qw.u.drew;rintro x w1⟨p2,c,rfl,hb1,hc⟩);all_goals (
   replace hb1:Bl W0 w1:=bx hb1;replace hc:(0<c/\qB s (IntKind.i64.wrap (d+2)) e=(c,none))\/(c=0/\∃v,qB s (IntKind.i64.wrap (d+2)) e=(0,some v)/\Tr top W0.1.size w1 (.pointer p2) v):=hc;have q8:=Ab hb1;have HC:=Ab hc;clear hb1 hc;go_wp2;go_meet;grind)
 case rest=>
  obtain⟨p2,c,rfl,rfl,q8,HC⟩:=hcut;have qq:=Ab (z4.u.trans (q8.u.mono (by have:=z7.u;omega)));have A1:=Ab (qb.u.low q8.u);rcases HC.u with⟨hpos,q7⟩|⟨rfl,pv,q7,zg⟩
  .rw[za.u]at q7;have qe:=Ab (show RR=((c,0,[]),v) by rw[qv.u];unfold tO;rw[q7]);have e0:((c:Int)!=0)=true:=ω;clear q7 hpos;go_wp2_with fail;refine(BL c _).mono ?_;rintro x w3⟨rfl,hb3⟩;have a3:=A1.u.low hb3;have g0:=a3.c0;have g1:=a3.c1;have g2:=a3.c2;have z:=a3.fz;have z5:=Ab (qq.u.trans (hb3.mono qq.u.size));clear a3 hb3;unfold AC;go_wp2_with fail;refine Ì (v:=Ay (c,0,[])) (by simp[results,results59,go_sem,Ay,g0,g1,g2]) rfl ?_;rw[qe.u];exact QI _ _ _ (Aw.of_below z5.u) ⟨D,R,wp,rfl,qu.u.move λk hk qk=>⟨z5.u.block k qk,Å ⟨hk,ζ⟩⟩⟩
  .rw[za.u]at q7;have z1:=Fe q7;have z2:=Ge q7 top;have z0:=qw.u.below (q8.u.mono qw.u.ng);have zk:=Ab (Uk (f:=top-2) zg.rep ζ (We z1 z2) z0 (zh.u.below q8.u));have z6:=Ab q7;have zi:=Ab (λl (h:A7 pv=.ok l)=>IV z1 z2 ζ h);have z8:=Ab z0;clear q7 zg z1 z2 z0;go_wp2_with fail;refine zk.u.mono ?_;rintro x w2⟨q5,hb2⟩;have A2:=Ab (A1.u.low hb2);have qd:=Ab (qq.u.trans (hb2.mono qq.u.size));have zo:=Ab hb2;unfold DR at q5;cases hpr:A7 pv with
   |error i=>
    rw[hpr]at q5;subst q5;have qe:=Ab (show RR=((10,i,[]),v) by rw[qv.u];unfold tO;rw[z6.u];grind);have g0:=A2.u.c0;have g1:=A2.u.c1;have g2:=A2.u.c2;have z:=A2.u.fz;clear hpr hb2;go_wp2_with fail;refine Ì (v:=Ay (10,i,[])) (by simp[results,results59,go_sem,Ay,g0,g1,g2]) rfl ?_;rw[qe.u];exact QI _ _ _ (Aw.of_below qd.u) ⟨D,R,wp,rfl,qu.u.move λk hk qk=>⟨qd.u.block k qk,Å ⟨hk,ζ⟩⟩⟩
   |ok l=>
    rw[hpr]at q5;obtain⟨ao,g,cap,rfl,hg,qo⟩:=q5;obtain⟨qm,qn⟩:=zi.u l hpr;have zf:=q8.u.size;have hs2:=hb2.size;have q6:Bl W0 w2:=q8.u.trans (hb2.mono zf);have zj:=Ab (λ(w9:C2) (h9:Bl w2 w9)=>Uh (ao:=ao) (cap:=cap) (l:=l) (g:=g) qu.u (λk hk=>⟨(HF.u k hk.1).1,hk.2⟩) z4.u z7.u (q6.trans (h9.mono q6.size)) (z8.u.below ((hb2.trans (h9.mono hs2)).mono z8.u.ng))
     (λi hi=>by
      obtain⟨pa,pl,pc,fa,fl,fc,y,q0,q1,q2,q3,q4⟩:=qo i hi;have qt:=B2 w2 _ q1;exact⟨pa,pl,pc,fa,fl,fc,y,q0.move λk hk qk=>⟨h9.block k qk,ζ⟩,(h9.cell (p:=⟨g,i*4,none⟩) qt).trans q1,(h9.cell (p:=⟨g,i*4+1,none⟩) qt).trans q2,(h9.cell (p:=⟨g,i*4+2,none⟩) qt).trans q3,(h9.cell (p:=⟨g,i*4+3,none⟩) qt).trans q4⟩)
     ε qn qm zn)
    have qz:=zl.u.low q6;have zr:=qz.c0;have zt:=qz.c3;have qe:=Ab (λ(y:(pL×rA)) (c i:Nat) (h:match Cn d 0 v.1 [] l with
     |.error (c',i')=>c=c'/\i=i'/\y=v
     |.ok (u,j)=>c=0/\i=0/\y=(u,some j.reverse))=>(show RR=((c,i,[]),y) by
      rw[qv.u];unfold tO;rw[z6.u];grind))
    clear hpr hb2 hg qo qm qn zf hs2 q6 qz c0 c1;go_upto_region 7 with(fail)
    go_cut [8,6] (λs8 s6 wx=>∃(c i:Nat) (v':pL×rA),s8=InB i/\s6=InB c/\Hid (wx.1[w.1.size]?=W0.1[w.1.size]?/\Aw (λk=>F k/\k<w.1.size) w wx/\BN wx (FN (λk=>F k/\k<w.1.size) (w.1.size+1)) (PtB D) d e (some v')/\RR=((c,i,[]),v')))
    case first=>
     go_region_with (go_at_call 84;refine(zj.u _ ?_).mono ?_;exact⟨rfl,rfl,rfl,Á _,λ_ _=>rfl⟩;rintro x w3⟨c,i,v',rfl,q1,q2,q3,q4⟩);all_goals (
      have q9:=Ab (show w3.1[w.1.size]?=W0.1[w.1.size]?/\Aw (λk=>F k/\k<w.1.size) w w3/\BN w3 (FN (λk=>F k/\k<w.1.size) (w.1.size+1)) (PtB D) d e (some v')/\RR=((c,i,[]),v')from⟨q1,q2,q3,qe.u v' c i q4⟩);clear q1 q2 q3 q4;go_wp2;go_meet;grind)
    case rest=>
     obtain⟨c,i,v',rfl,rfl,q9⟩:=hcut;obtain⟨q1,q2,q3,q4⟩:=q9.u;have a3:AB wc w.1.size:=q1.trans qb.u;have g0:=a3.c0;have g1:=a3.c1;have g2:=a3.c2;have z:=a3.fz;clear q1 q2 q3 q4 a3;go_wp2_with fail;refine Ì (v:=Ay (c,i,[])) (by simp[results,results59,go_sem,Ay,g0,g1,g2]) rfl ?_;obtain⟨q1,q2,q3,q4⟩:=q9.u;rw[q4];exact QI _ _ _ q2 q3
theorem Y4:Nb:=λ_ _ _ _ _ _ _ _ _ hc hF hS hD hT=>TJ hc hF hS hD hT hT.otab
theorem Qt{D:Nat}{rv jn iv:AS}{ch:Bool}(h:DB w D rv jn ch iv):
  CB 86 #[PtB D] w (.tuple #[iv,.bool ch]):=by
 have c2:=h.c2;have c3:=h.c3;clear h;go_enter func86,ntmps86;go_wp2_with fail;go_quiet(fail);go_wp2;go_ret2;exact⟨rfl,rfl,rfl,rfl,Á _,λ_ _=>rfl⟩
theorem JX(s:By):
  Calls AI 164 #[.string ⟨s.toArray⟩] w λe w'=>e=.returned (.pointer (some ⟨w.1.size,0,none⟩))/\VB w' w.1.size 4 n0 s (.slice none 0 0) (.map none)/\Bl w w'/\w'.1.size=w.1.size+1:=by
 go_enter func164,ntmps164;go_wp2;go_ret;exact⟨rfl,Ê w _,(Â _ _).alloc (Á _) _,φ⟩
theorem Tz{p:AS}{bs:List AS}(h:DA 119 5 B b p bs w)(hb:Bl w w'):DA 119 5 B b p bs w':=by
 obtain⟨hB,v,hv,q0,hne⟩:=h;refine⟨hB,v,(hb.block b ε).trans hv,?_,hne⟩;refine⟨q0.1,q0.2.imp id ?_⟩;rintro⟨g,cap,cur,h1,h2,h3,h4⟩;exact⟨g,cap,cur,h1,h2,(hb.block g ε).trans h3,h4⟩
theorem Yd{l:By}(h:Bu B b l w)(hb:Bl w w'):Bu B b l w':=Or.imp (λh=>Tz h hb) (λh=>Tz h hb) h
theorem Xh{j:Nat}(hj:j<2){c:UInt8}(h:EH j=c.toNat):DJ c=(Fg j).data.toList:=by
 match j,hj with
 |0,_=>
  have:c=126:=ì.1 (by have:(126:Int)=c.toNat:=h;grind);subst this;rfl
 |1,_=>
  have:c=47:=ì.1 (by have:(47:Int)=c.toNat:=h;grind);subst this;rfl
theorem UM{c:UInt8}(h:∀j,j<2->EH j≠c.toNat):DJ c=[c]:=by
 unfold DJ;rw[if_neg (λe=>h 0 ζ (by rw[e];rfl)),if_neg (λe=>h 1 ζ (by rw[e];rfl))]
theorem oW{q6:By}(c:UInt8)(h:Bu B b q6 w)(hl:q6.length+2<=140737488355328)(hB:B<=w.1.size)(hT:Fq w):
  Calls AI 207 #[PtB b,.int .u8 c.toNat] w λe w'=>e=.returned (.tuple #[])/\Bu B b (q6++DJ c) w'/\Fr B b w w':=by
 obtain⟨ci,q7⟩:∃ci:Int,ci=c.toNat:=⟨_,rfl⟩
 rw[<-q7];have q5:=Ab q7;have HH:=Ab h;have HL:=Ab hl;have HB:=Ab hB;have hlt:4<w.1.size:=by obtain⟨t,fr,e⟩:=hT;grind
 obtain⟨tt,fz,qg⟩:=hT;clear q7 h hl hB;go_enter func207,ntmps207;go_wp2_with (refine wpList_load_row rfl 256 _ rfl 4 rfl tt _ fz _ qg underlying256 rfl δ ?_);clear qg hlt;go_loopw [7] (λi wr=>∃j:Nat,j<=2/\i=InB j/\Hid (Bl w wr)/\Hid (∀q,q<j->EH q≠ci)) (λi _=>2-(intOf i).toNat)
 case atStart=>exact⟨0,ζ,rfl,Â _ _,λq hq=>absurd hq ζ⟩
 case round=>
  obtain⟨j,hj,rfl,q0,qf⟩:=hrel;by_cases h2:j=2
  .subst h2;have HE:=Ab (UM (c:=c) λq hq=>by rw[<-q5.u];exact qf.u q hq);have HC:=Ab (BF c ci q5.u (Yd HH.u q0.u) (by have:=HL.u;omega) (Ã HB.u q0.u.size));go_wp2_with fail;refine HC.u.mono ?_;rintro e w2⟨rfl,h1,h3⟩;have H1:=Ab h1;have H3:=Ab h3;clear h1 h3;go_wp2_with fail;refine Ĝ (þ rfl _ _ _) rfl ⟨rfl,?_,?_⟩
   .rw[HE.u];exact H1.u
   .exact Fr.trans ⟨q0.u.mono HB.u,OKz.below q0.u⟩ H3.u
  .have q9:j<2:=ζ;have qj:(j:Int)<2:=ζ;have q8:=λw1=>Ss j q9 w1;by_cases hh:EH j=ci
   .have e1:(EH j==ci)=true:=ε;have HE:=Ab (Xh q9 (c:=c) (hh.trans q5.u));have qb:=NQ j q9;have hpk:Fg j=⟨(Fg j).data.toList.toArray⟩:=θ;obtain⟨l,qh⟩:∃l,l=(Fg j).data.toList:=⟨_,rfl⟩
    rw[<-qh]at hpk HE;have qd:l.length=2:=by rw[hpk,AD]at qb;exact qb
    rw[hpk]at q8;have q4:Bl w (wr.alloc (.cells #[.string ⟨l.toArray⟩,.int .u8 (EH j)] 255)):=q0.u.alloc q0.u.size _;have HC:=Ab (KZ l (Yd HH.u q4) (by have:=HL.u;omega) (Ã HB.u q4.size));have qe:=Ab q4;clear qb hpk qh qd q4 hh;generalize EH j=pb at*;go_wp2_with fail;refine HC.u.mono ?_;rintro e w2⟨rfl,h1,h3⟩;have H1:=Ab h1;have H3:=Ab h3;clear h1 h3;go_wp2_with fail;refine Ì (v:=.tuple #[]) (þ rfl _ _ _) rfl ⟨rfl,?_,?_⟩
    .rw[HE.u];exact H1.u
    .exact Fr.trans ⟨qe.u.mono HB.u,OKz.below qe.u⟩ H3.u
   .have e1:(EH j==ci)=false:=ε;have qi:=Ab (show∀q,q<j+1->EH q≠ci from λq hq=>if e:q=j then e▸hh else qf.u q ζ);clear hh;generalize Fg j=pk at*;generalize EH j=pb at*;go_wp2;exact⟨⟨j+1,ζ,ψ,q0.u.alloc q0.u.size _,qi⟩,by simp[intOf];omega⟩
