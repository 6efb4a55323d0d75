import Derived.Test.YtdpomdelmdofmaaGreatDoorPfx30
open Go.Proofs.Tryz renaming prog->AI
open Go.RowKit renaming Below->AS
open Go renaming Calls->AT,heap_alloc_new->A2,World->A3,Value->CR
open Nat renaming le_refl->A1,le_trans->BY
open Go.RowKit.Below renaming refl->A4,heap_alloc->A6
open Go.World renaming cell?_of_block->A5,cell?->CL
open Array renaming getElem?_eq_some_iff->Bs
open List renaming length_map->CD,mem_iff_getElem->CH,mem_map->D0
open Go.Lit renaming string->C1
open Go.Lib renaming itoa->C2
open Or renaming inr->Dp,inl->Dt
open Prod renaming snd->D1
set_option maxHeartbeats 4000000
set_option maxRecDepth 100000
namespace Go.Proofs.YtdpomdelmdofmaaGreatDoor
open Go.Proofs.Tryz Go.RowKit Go.Maps
variable{p:List Nat}{w2:A3}{L f:Nat}{rv:CR}{m:Zf}{px:Option Addr}{path s:List By}
section
variable{w:A3}{D R g o n cap b i:Nat}{t:By}{y:Option Addr}{c:Nat}{Q1 Q2 Q3:Option Addr->A3->Prop}{Q4:Option Addr->Nat->Nat->A3->Prop}{Q:A3->Prop}
theorem UR{a:Option Addr}(hC:AT AI 201 #[.pointer y] w fun e w'=>∃x,e=.returned (.pointer x)/\Hid (Q1 x w'))(hR:∀x w1,Q1 x w1->w1.cell? ⟨D,0,none⟩=some (.pointer (some ⟨R,0,none⟩)))(hP:∀x w1,Q1 x w1->AT AI 160 #[.pointer (some ⟨D,0,none⟩),plV (.slice none 0 0) R [] 0,.pointer x] w1 fun e w'=>e=.returned (.tuple #[])/\Q w'):
  AT AI 197 #[.pointer (some ⟨D,0,none⟩),.slice a 0 cap,.pointer y] w fun e w'=>e=.returned (.int .i64 0)/\Q w':=by
 have HC:=Ab hC;have HR:=Ab hR;have HP:=Ab hP;clear hC hR hP
 go_enter func197,ntmps197
 go_wp2_with (fail);refine (Aa HC).mono ?_
 rintro e w1 ⟨x,rfl,hq⟩;have c0:=Aa HR x w1 (Aa hq)
 go_wp2_with (fail);refine (Aa HP x w1 (Aa hq)).mono ?_
 rintro e w2 ⟨rfl,q0⟩;have q4:=Ab q0;clear q0
 go_wp2_with (fail)
 go_ret;exact⟨rfl,Aa q4⟩
theorem UQ(hc:c≠0)(hC:AT AI 201 #[.pointer y] w fun e w'=>∃x,e=.returned (.pointer x)/\Hid (Q1 x w'))(hP:∀x w1,Q1 x w1->AT AI 243 #[.pointer (some ⟨D,0,none⟩),.slice (some ⟨g,o,none⟩) (n+1) cap] w1 fun e w'=>e=.returned (.tuple #[.pointer none,.string ⟨t.toArray⟩,.int .i64 c])/\Q w'):
  AT AI 197 #[.pointer (some ⟨D,0,none⟩),.slice (some ⟨g,o,none⟩) (n+1) cap,.pointer y] w fun e w'=>e=.returned (.int .i64 c)/\Q w':=by
 have HC:=Ab hC;have HP:=Ab hP;have e1:¬ ((n:Int)+1=0):=by omega
 have e2:((c:Int) != 0)=true:=by rw[bne_iff_ne];omega
 have e3:((c:Int)==0)=false:=by rw[beq_eq_false_iff_ne];omega
 clear hC hP hc
 go_enter func197,ntmps197
 go_wp2_with (fail);refine (Aa HC).mono ?_
 rintro e w1 ⟨x,rfl,hq⟩
 go_wp2_with (fail);refine (Aa HP x w1 (Aa hq)).mono ?_
 rintro e w2 ⟨rfl,q0⟩;have q4:=Ab q0;clear q0
 go_wp2_with (fail)
 go_ret;exact⟨rfl,Aa q4⟩
theorem NC(hC:AT AI 201 #[.pointer y] w fun e w'=>∃x,e=.returned (.pointer x)/\Hid (Q1 x w'))(hP:∀x w1,Q1 x w1->AT AI 243 #[.pointer (some ⟨D,0,none⟩),.slice (some ⟨g,o,none⟩) (n+1) cap] w1 fun e w'=>e=.returned (.tuple #[.pointer (some ⟨b,0,none⟩),.string ⟨t.toArray⟩,.int .i64 0])/\Q2 x w')(hK:∀x w2,Q2 x w2->w2.cell? ⟨b,0,none⟩=some (.int .i64 6))(hU:∀x w2,Q2 x w2->AT AI 160 #[.pointer (some ⟨D,0,none⟩),plV (.slice (some ⟨g,o,none⟩) (n+1) cap) b t 0,.pointer x] w2 fun e w'=>e=.returned (.tuple #[])/\Q w'):
  AT AI 197 #[.pointer (some ⟨D,0,none⟩),.slice (some ⟨g,o,none⟩) (n+1) cap,.pointer y] w fun e w'=>e=.returned (.int .i64 0)/\Q w':=by
 have HC:=Ab hC;have HP:=Ab hP;have HK:=Ab hK;have HU:=Ab hU;have e1:¬ ((n:Int)+1=0):=by omega
 clear hC hP hK hU
 go_enter func197,ntmps197
 go_wp2_with (fail);refine (Aa HC).mono ?_
 rintro e w1 ⟨x,rfl,hq⟩
 go_wp2_with (fail);refine (Aa HP x w1 (Aa hq)).mono ?_
 rintro e w2 ⟨rfl,q0⟩;have q6:=Ab q0;have c0:=Aa HK x w2 q0;clear q0
 go_wp2_with (fail);refine (Aa HU x w2 (Aa q6)).mono ?_
 rintro e w3 ⟨rfl,q4⟩;have q5:=Ab q4;clear q4
 go_wp2_with (fail)
 go_ret;exact⟨rfl,Aa q5⟩
theorem Hz{k:Int}(h5:k≠5)(h6:k≠6)(hC:AT AI 201 #[.pointer y] w fun e w'=>∃x,e=.returned (.pointer x)/\Hid (Q1 x w'))(hP:∀x w1,Q1 x w1->AT AI 243 #[.pointer (some ⟨D,0,none⟩),.slice (some ⟨g,o,none⟩) (n+1) cap] w1 fun e w'=>e=.returned (.tuple #[.pointer (some ⟨b,0,none⟩),.string ⟨t.toArray⟩,.int .i64 0])/\Q w')(hK:∀w2,Q w2->w2.cell? ⟨b,0,none⟩=some (.int .i64 k)):
  AT AI 197 #[.pointer (some ⟨D,0,none⟩),.slice (some ⟨g,o,none⟩) (n+1) cap,.pointer y] w fun e w'=>e=.returned (.int .i64 11)/\Q w':=by
 have HC:=Ab hC;have HP:=Ab hP;have HK:=Ab hK;have e1:¬ ((n:Int)+1=0):=by omega
 clear hC hP hK
 go_enter func197,ntmps197
 go_wp2_with (fail);refine (Aa HC).mono ?_
 rintro e w1 ⟨x,rfl,hq⟩
 go_wp2_with (fail);refine (Aa HP x w1 (Aa hq)).mono ?_
 rintro e w2 ⟨rfl,q0⟩;have q4:=Ab q0;have c0:=Aa HK w2 q0;clear q0
 go_wp2_with (fail)
 go_ret;exact⟨rfl,Aa q4⟩
theorem SQ(hc:c≠0)(hC:AT AI 201 #[.pointer y] w fun e w'=>∃x,e=.returned (.pointer x)/\Hid (Q1 x w'))(hP:∀x w1,Q1 x w1->AT AI 243 #[.pointer (some ⟨D,0,none⟩),.slice (some ⟨g,o,none⟩) (n+1) cap] w1 fun e w'=>e=.returned (.tuple #[.pointer (some ⟨b,0,none⟩),.string ⟨t.toArray⟩,.int .i64 0])/\Q2 x w')(hK:∀x w2,Q2 x w2->w2.cell? ⟨b,0,none⟩=some (.int .i64 5))(hS:∀x w2,Q2 x w2->AT AI 244 #[.pointer (some ⟨b,0,none⟩),.string ⟨t.toArray⟩] w2 fun e w'=>e=.returned (.tuple #[.int .i64 0,.int .i64 c])/\Q w'):
  AT AI 197 #[.pointer (some ⟨D,0,none⟩),.slice (some ⟨g,o,none⟩) (n+1) cap,.pointer y] w fun e w'=>e=.returned (.int .i64 c)/\Q w':=by
 have HC:=Ab hC;have HP:=Ab hP;have HK:=Ab hK;have HS:=Ab hS;have e1:¬ ((n:Int)+1=0):=by omega
 have e2:((c:Int) != 0)=true:=by rw[bne_iff_ne];omega
 have e3:((c:Int)==0)=false:=by rw[beq_eq_false_iff_ne];omega
 clear hC hP hK hS hc
 go_enter func197,ntmps197
 go_wp2_with (fail);refine (Aa HC).mono ?_
 rintro e w1 ⟨x,rfl,hq⟩
 go_wp2_with (fail);refine (Aa HP x w1 (Aa hq)).mono ?_
 rintro e w2 ⟨rfl,q0⟩;have q6:=Ab q0;have c0:=Aa HK x w2 q0;clear q0
 go_wp2_with (fail);refine (Aa HS x w2 (Aa q6)).mono ?_
 rintro e w3 ⟨rfl,q4⟩;have q5:=Ab q4;clear q4
 go_wp2_with (fail)
 go_ret;exact⟨rfl,Aa q5⟩
theorem US(hC:AT AI 201 #[.pointer y] w fun e w'=>∃x,e=.returned (.pointer x)/\Hid (Q1 x w'))(hP:∀x w1,Q1 x w1->AT AI 243 #[.pointer (some ⟨D,0,none⟩),.slice (some ⟨g,o,none⟩) (n+1) cap] w1 fun e w'=>e=.returned (.tuple #[.pointer (some ⟨b,0,none⟩),.string ⟨t.toArray⟩,.int .i64 0])/\Q2 x w')(hK:∀x w2,Q2 x w2->w2.cell? ⟨b,0,none⟩=some (.int .i64 5))(hS:∀x w2,Q2 x w2->AT AI 244 #[.pointer (some ⟨b,0,none⟩),.string ⟨t.toArray⟩] w2 fun e w'=>e=.returned (.tuple #[.int .i64 i,.int .i64 0])/\Q3 x w')(hN:∀x w3,Q3 x w3->AT AI 245 #[.slice (some ⟨g,o,none⟩) (n+1) cap,.int .i64 i] w3 fun e w'=>∃g2 c2,e=.returned (.slice (some ⟨g2,0,none⟩) (n+1) c2)/\Q4 x g2 c2 w')(hU:∀x g2 c2 w4,Q4 x g2 c2 w4->AT AI 205 #[.pointer (some ⟨D,0,none⟩),plV (.slice (some ⟨g2,0,none⟩) (n+1) c2) b [] i,.pointer x] w4 fun e w'=>e=.returned (.tuple #[])/\Q w'):
  AT AI 197 #[.pointer (some ⟨D,0,none⟩),.slice (some ⟨g,o,none⟩) (n+1) cap,.pointer y] w fun e w'=>e=.returned (.int .i64 0)/\Q w':=by
 have HC:=Ab hC;have HP:=Ab hP;have HK:=Ab hK;have HS:=Ab hS;have HN:=Ab hN;have HU:=Ab hU;have e1:¬ ((n:Int)+1=0):=by omega
 clear hC hP hK hS hN hU
 go_enter func197,ntmps197
 go_wp2_with (fail);refine (Aa HC).mono ?_
 rintro e w1 ⟨x,rfl,hq⟩
 go_wp2_with (fail);refine (Aa HP x w1 (Aa hq)).mono ?_
 rintro e w2 ⟨rfl,q0⟩;have qb:=Ab q0;have c0:=Aa HK x w2 q0;clear q0
 go_wp2_with (fail);refine (Aa HS x w2 (Aa qb)).mono ?_
 rintro e w3 ⟨rfl,q4⟩;have q7:=Ab q4;clear q4 c0
 go_wp2_with (fail);refine (Aa HN x w3 (Aa q7)).mono ?_
 rintro e w4 ⟨g2,c2,rfl,q5⟩;have q8:=Ab q5;clear q5
 go_wp2_with (fail);refine (Aa HU x g2 c2 w4 (Aa q8)).mono ?_
 rintro e w5 ⟨rfl,q6⟩;have q9:=Ab q6;clear q6
 go_wp2_with (fail)
 go_ret;exact⟨rfl,Aa q9⟩
end
def AM(D R:Nat)(iv:CR)(ch:Bool)(Tb:Zf)(Mb:Nat->Prop)(wb:A3)(M:Nat->Prop)(js:List Zk)(w:A3)(r:Except Nat (To×List Zk))(e:Ending)(w':A3):Prop:=match r with
 | .ok (v',j)=>e=.returned (.int .i64 0) /\ ∃wp jn T a M',JS w' D R wp jn iv ch Tb Mb wb T a v' M' (js++j)/\JEx M M' w w'
 | .error c=>e=.returned (.int .i64 c) /\ ∃wp jn T a v' M' q0,JS w' D R wp jn iv ch Tb Mb wb T a v' M' q0/\JEx M M' w w'
structure Zx(d x:Int)(B:Nat)(v:To):Prop where
 gd:Zl d x top 1 v
 dd:d<=500
 sz:Zh top v<=B
theorem cT{d x:Int}:∀ {f:Nat} {lv:Int} {v:To},Zl d x f lv v->Zh f v<=1000000000000->bC f v
 | 0,_,_,_,_=>trivial
 | f+1,lv,v,h,hs=>by
  have hk:=Kv (f:=f) (v:=v);have q0:∀i e,(Cj v)[i]? = some e->bC f e:=fun i e he=>by
   have h1:=Kh (e:=.nil) h he;have h2:Zh f (.nil:To)=0:=by cases f<;>rfl
   exact cT (Gh h he) (by omega)
  obtain⟨_,h⟩:=h;rcases h with⟨k,_,rfl⟩|⟨s,_,rfl⟩|⟨n,_,_,_,rfl⟩|⟨es,_,rfl⟩|⟨es,_,_,rfl⟩
  ·trivial
  ·trivial
  ·trivial
  ·refine⟨BY hk hs,fun e he=>?_⟩;obtain⟨i,hi,e'⟩:=CH.1 he;exact q0 i e (show es[i]? = some e by grind)
  ·refine⟨by rw[<- CD (f:=D1)];exact BY hk hs,fun p hp=>?_⟩;obtain⟨i,hi,e'⟩:=CH.1 hp;exact q0 i p.2 (show (es.map D1)[i]? = some p.2 by grind)
def Z2(p:List By):Prop:=(p.map fun t=>t.length+1).sum<=100000 /\ ∀t∈p,Ut t
theorem Id:∀ (p:List By),p.length<=(p.map fun t=>t.length+1).sum /\ ∀t∈p,t.length<=(p.map fun t=>t.length+1).sum
 | []=>⟨A1 _,fun t h=>by cases h⟩
 | a::r=>by
  obtain⟨h1,h2⟩:=Id r
  grind
theorem Z2.len{p:List By}(h:Z2 p):p.length<=100000:=BY (Id p).1 h.1
theorem Z2.tok{p:List By}(h:Z2 p):∀t∈p,t.length<=100000:=fun t ht=>BY ((Id p).2 t ht) h.1
def Frs(w:A3)(xv:To)(x:Option Addr)(w1:A3):Prop:=AS w.heap.size w w1/\Tr top w.heap.size w1 (.pointer x) xv
theorem Frs.bel{w w1:A3}{xv:To}{x:Option Addr}(h:Frs w xv x w1)(hb:AS w1.heap.size w1 w2):Frs w xv x w2:=
 ⟨h.1.trans (hb.mono h.1.size),h.2.move (A1 _) fun k _ hk=>hb.block k hk⟩
theorem R1{w:A3}{D i:Nat}{jn iv:CR}{ch:Bool}{Tb T c:Zf}{Mb M:Nat->Prop}{wb:A3}{js:List Zk}{key:By}{pa:Option Addr}{pl pc:Nat}(hL:f+1+p.length=L)(hJ:Bm L w D rv jn iv ch Tb Mb wb T M js)(hs:Zo p T=some m)(hf:GU m i key)(hr:B4 m key)(hl:js.length<=1000000000)(hp:Au w (GA L Tb wb M) (.slice pa pl pc) path)(hc:Ad f w (.pointer px) c)(q0:(fp f c).Nodup)(q4:∀k∈fp f c,¬ M k/\k ∉ fp L T/\k≠D/\jn.ownBlock≠some k/\wb.heap.size<=k):
  AT AI 205 #[.pointer (some ⟨D,0,none⟩),plV (.slice pa pl pc) (Zv m) key i,.pointer px] w fun e w'=>e=.returned (.tuple #[]) /\
   BM L D rv iv ch Tb Mb wb (Zs p (BI i key c m) T) M (js++[(1,path,.nil)]) w w':=by
 subst hL;exact JV hJ hs hf hr hl hp hc q0 q4
theorem MB{w:A3}{D i:Nat}{jn iv:CR}{ch:Bool}{Tb T c x:Zf}{Mb M:Nat->Prop}{wb:A3}{js:List Zk}{key:By}{pa:Option Addr}{pl pc:Nat}(hL:f+1+p.length=L)(hJ:Bm L w D rv jn iv ch Tb Mb wb T M js)(hs:Zo p T=some m)(hf:AR m i key c)(hr:B4 m key)(hl:js.length<=1000000000)(hp:Au w (GA L Tb wb M) (.slice pa pl pc) path)(q5:f<=top)(hx:Ad f w (.pointer px) x)(q0:(fp f x).Nodup)(q4:∀k∈fp f x,¬ M k/\k ∉ fp L T/\k≠D/\jn.ownBlock≠some k/\wb.heap.size<=k):
  AT AI 160 #[.pointer (some ⟨D,0,none⟩),plV (.slice pa pl pc) (Zv m) key i,.pointer px] w fun e w'=>e=.returned (.tuple #[]) /\
   BM L D rv iv ch Tb Mb wb (Zs p (Br i key x m) T) M (js++[(2,path,Zi f c)]) w w':=by
 subst hL;exact VT hJ hs hf hr hl hp q5 hx q0 q4
theorem OR{w:A3}{D i:Nat}{jn iv:CR}{ch:Bool}{Tb T x:Zf}{Mb M:Nat->Prop}{wb:A3}{js:List Zk}{key:By}{pa:Option Addr}{pl pc:Nat}{b g:Nat}{es:List (Lit×Zf)}(hL:f+1+p.length=L)(hJ:Bm L w D rv jn iv ch Tb Mb wb T M js)(hs:Zo p T=some (Zj b g (.map es)))(hf:∀p∈es,p.1≠C1 key)(hr:B4 (Zj b g (.map es)) key)(hl:js.length<=1000000000)(hp:Au w (GA L Tb wb M) (.slice pa pl pc) path)(hx:Ad f w (.pointer px) x)(q0:(fp f x).Nodup)(q4:∀k∈fp f x,¬ M k/\k ∉ fp L T/\k≠D/\jn.ownBlock≠some k/\wb.heap.size<=k):
  AT AI 160 #[.pointer (some ⟨D,0,none⟩),plV (.slice pa pl pc) b key i,.pointer px] w fun e w'=>e=.returned (.tuple #[]) /\
   BM L D rv iv ch Tb Mb wb (Zs p (BI i key x (Zj b g (.map es))) T) M (js++[(1,path,.nil)]) w w':=by
 subst hL;exact TH hJ hs hf hr hl hp hx q0 q4
section
variable{w w':A3}{D R:Nat}{wp:Option Addr}{jn iv:CR}{ch:Bool}{Tb T a:Zf}{Mb M:Nat->Prop}{wb:A3}{v:To}{js:List Zk}
theorem JS.done{g:Nat}{T1 a1:Zf}{v':To}(h:BM (top+1) D (.pointer (some ⟨R,0,none⟩)) iv ch Tb Mb wb T1 M js w w')(e:T1=Zj R g (.slice [a1] []))(hv:Zi top a1=v'):
  ∃wp jn T a M',JS w' D R wp jn iv ch Tb Mb wb T a v' M' js/\JEx M M' w w':=by
 obtain⟨q0,T',M',q1,q2,q3⟩:=h;rw[e] at q1;obtain⟨wp,a,hj⟩:=JS.of q2 q1;rw[hv] at hj;exact⟨wp,q0,T',a,M',hj,q3⟩
theorem JS.ok{g:Nat}{T1 a1:Zf}{v':To}{j:List Zk}(h:BM (top+1) D (.pointer (some ⟨R,0,none⟩)) iv ch Tb Mb wb T1 M (js++j) w w')(e:T1=Zj R g (.slice [a1] []))(hv:Zi top a1=v'):
  AM D R iv ch Tb Mb wb M js w (.ok (v',j)) (.returned (.int .i64 0)) w':=⟨rfl,JS.done h e hv⟩
theorem JS.err{c:Nat}(h:JS w D R wp jn iv ch Tb Mb wb T a v M js)(hb:AS w.heap.size w w'):AM D R iv ch Tb Mb wb M js w (.error c) (.returned (.int .i64 c)) w':=
 ⟨rfl,wp,jn,T,a,v,M,js,h.bel hb,(h.j.bel hb).2⟩
theorem JEx.below{M':Nat->Prop}(h:AS w.heap.size w w')(hM:∀k,M k->k<w.heap.size)(k:JEx M M' w' w2):JEx M M' w w2:=
 ⟨k.os.trans h.os,k.tape.trans h.tape,k.output.trans h.output,BY h.size k.size,fun j hj=>⟨(k.kept j hj).1,(k.kept j hj).2.trans (h.block j (hM j hj))⟩⟩
theorem AM.below{js:List Zk}{r:Except Nat (To×List Zk)}{e:Ending}(h:AS w.heap.size w w')(hM:∀k,M k->k<w.heap.size)(k:AM D R iv ch Tb Mb wb M js w' r e w2):AM D R iv ch Tb Mb wb M js w r e w2:=by
 cases r with
 | ok vj=>
  obtain⟨rfl,wp,jn,T,a,M',h1,h2⟩:=k;exact⟨rfl,wp,jn,T,a,M',h1,JEx.below h hM h2⟩
 | error c=>
  obtain⟨rfl,wp,jn,T,a,v,M',q0,h1,h2⟩:=k;exact⟨rfl,wp,jn,T,a,v,M',q0,h1,JEx.below h hM h2⟩
theorem JS.new(h:JS w D R wp jn iv ch Tb Mb wb T a v M js){k:Nat}(hk:w.heap.size<=k):¬ M k/\k ∉ fp (top+1) T/\k≠D/\jn.ownBlock≠some k/\wb.heap.size<=k:=
 ⟨fun hm=>by have:=(h.j.low k hm).1;omega,fun hm=>by have:=h.j.tr.lt k hm;omega,fun e=>by have:=h.j.dlt;omega,fun e=>by have:=h.j.jlt k e;omega,BY h.j.up.1 hk⟩
theorem JS.node{d x:Int}{B:Nat}{q:List Nat}{u:CR}(h:JS w D R wp jn iv ch Tb Mb wb T a v M js)(hg:Zx d x B v)(hq:f+1+q.length=top)(hs:Zo q a=some m)(hu:Ad (f+1) w u m):
  f+1+(0::q).length=top+1/\Zo (0::q) T=some m/\1000<=f/\(AH m).length<=B/\Zl d x (f+1) (1+q.length) (Zi (f+1) m)/\Zh (f+1) (Zi (f+1) m)<=B/\B5 q v=some (Zi (f+1) m):=by
 obtain⟨g,e⟩:=h.t.one;have hv:=h.t.str;have q0:B5 q v=some (Zi (f+1) m):=by
  rw[<- hv,<- hq];exact Gw (f:=f+1) (by rw[hq];exact h.t.sub) hs
 have q4:Zl d x (f+1+q.length) 1 v:=by rw[hq];exact hg.gd
 have h1:=Ne q4 q0;have h2:=E3 h1;have h3:=hg.dd;have h4:=Mi q4 q0;rw[hq] at h4;have h5:=Kv (f:=f) (v:=Zi (f+1) m);rw[Dw hu,CD] at h5;have h6:=hg.sz;have ht:=EA;refine⟨by simp;omega,?_,by omega,by omega,h1,by omega,q0⟩;rw[e];exact hs
theorem JS.value{g:Nat}{q:List Nat}{m':Zf}{w0:A3}(h:JS w0 D R wp jn iv ch Tb Mb wb T a v M js)(e:T=Zj R g (.slice [a] []))(hq:f+1+q.length=top)(hs:Zo q a=some m):
  Zs (0::q) m' T=Zj R g (.slice [Zs q m' a] [])/\Zi top (Zs q m' a)=Cd q (Zi (f+1) m') v:=by
 refine⟨?_,?_⟩
 ·rw[e,BE (c:=a) m' rfl];rfl
 ·have hv:=h.t.str;have h1:=OK (w:=w0) (p:=q) (f:=f+1) (u:=.pointer wp) (a:=a) (n:=m) m' (by rw[hq];exact h.t.sub) hs;rw[hq,hv] at h1;exact h1
end
theorem Jh{w:A3}{F:Nat->Prop}{d x:Int}{B:Nat}{xv:To}{y:Option Addr}(h:Rep top F w (.pointer y) xv)(hx:Zx d x B xv)(hB:B<=1000000000):
  AT AI 201 #[.pointer y] w fun e w'=>∃x,e=.returned (.pointer x)/\Hid (Frs w xv x w'):=by
 refine (Gs top xv (cT hx.gd (by have:=hx.sz;omega)) F w _ h).mono ?_;rintro e w' ⟨p,rfl,hb,ht⟩;exact⟨some p,rfl,hb,ht⟩
theorem Frs.at{w w1:A3}{d x:Int}{B:Nat}{xv:To}{y:Option Addr}{D R:Nat}{wp:Option Addr}{jn iv:CR}{ch:Bool}{Tb T a:Zf}{Mb M:Nat->Prop}{wb:A3}{v:To}{js:List Zk}(h:JS w D R wp jn iv ch Tb Mb wb T a v M js)(hf:Frs w xv y w1)(hx:Zx d x B xv)(h1:1000<=f)(h2:f<=top):
  ∃ax,Ad f w1 (.pointer y) ax/\Zi f ax=xv/\Zi top ax=xv/\(fp f ax).Nodup/\(∀k∈fp f ax,w.heap.size<=k/\k<w1.heap.size) /\ ∀k∈fp f ax,¬ M k/\k ∉ fp (top+1) T/\k≠D/\jn.ownBlock≠some k/\wb.heap.size<=k:=by
 obtain⟨_,ax,a1,a2,a3,a4⟩:=hf;obtain⟨b1,b2,b3⟩:=a1.fit (f:=f) (by rw[a2];exact Co hx.gd (by have:=hx.dd;omega)) h2;have hlt:=a1.lt;exact⟨ax,b1,b3.trans a2,a2,b2▸a3,by grind,fun k hk=>h.new (a4 k (b2▸hk))⟩
section
variable{w:A3}{D R:Nat}{wp:Option Addr}{jn iv:CR}{ch:Bool}{Tb T a:Zf}{Mb M:Nat->Prop}{wb:A3}{v xv:To}{js:List Zk}{y:Option Addr}{F:Nat->Prop}{d x:Int}{B:Nat}
theorem LH{pa:Option Addr}{cap:Nat}(h:JS w D R wp jn iv ch Tb Mb wb T a v M js)(hx:Zx d x B xv)(hB:B<=1000000000)(hl:js.length<=1000000000)(hy:Rep top F w (.pointer y) xv):
  AT AI 197 #[.pointer (some ⟨D,0,none⟩),.slice pa 0 cap,.pointer y] w fun e w'=>AM D R iv ch Tb Mb wb M js w (.ok (xv,[(2,[],v)])) e w':=by
 obtain⟨g,eT⟩:=h.t.one;have hM:∀k,M k->k<w.heap.size:=fun k hk=>(h.j.low k hk).1;refine (UR (R:=R) (Q:=fun w'=>AM D R iv ch Tb Mb wb M js w (.ok (xv,[(2,[],v)])) (.returned (.int .i64 0)) w') (Jh hy hx hB) (fun z w1 hq=>?_) (fun z w1 hq=>?_)).mono ?_
 ·exact (h.bel hq.1).t.db.c0
 ·have h1:=h.bel hq.1;obtain⟨ax,b1,b2,q4,b3,b4,b5⟩:=Frs.at h hq hx (f:=top) (by have:=EA;omega) (A1 _);have hp:=MB (f:=top) (p:=[]) (i:=0) (key:=[]) (path:=[]) (pa:=none) (pl:=0) (pc:=0) (c:=a) (m:=T) (L:=top+1) rfl h1.j rfl (Dt ⟨R,g,[a],eT,rfl⟩) (by rw[eT];exact⟨by rw[BO];simp,by simp⟩) hl (Dt (by grind)) (A1 _) b1 b3 b5;have q0:Zv T=R:=by rw[eT];rfl
  rw[q0] at hp;refine hp.mono ?_;rintro e w' ⟨rfl,he⟩;refine⟨rfl,AM.below hq.1 hM (JS.ok (T1:=Zs [] (Br 0 [] ax T) T) (g:=g) (a1:=ax) ?_ ?_ q4)⟩
  ·have:=h.t.str
   grind
  ·rw[eT];rfl
 grind
theorem ON{n i:Nat}{t:By}(h:ER n t=.ok i):i<=n:=by
 unfold ER at h;split at h
 ·injection h with h;omega
 ·split at h
  ·cases h
  ·split at h
   ·cases h
   ·injection h with h;omega
theorem Mr{n c:Nat}{t:By}(h:ER n t=.error c):c≠0:=by
 unfold ER at h;split at h
 ·cases h
 ·split at h
  ·injection h with h;omega
  ·split at h
   ·injection h with h;omega
   ·cases h
theorem Cc{d:To}{c:Nat}(h:Ak d s=.error c):c≠0:=by
 induction s generalizing d with
 | nil=>cases h
 | cons t r ih=>
  unfold Ak at h;split at h
  ·exact ih h
  ·rename_i c' hc;injection h with h;have:=EM hc;omega
theorem CZ{d:To}{q:List Nat}(h:Dq d s=some q):bL d s=q:=by unfold bL;rw[h];rfl
theorem Dv(s:List By)(t:By):EG (s++[t])=some (s,t):=by unfold EG;simp
theorem Af.bel{w w':A3}(h:Af w)(hb:AS w.heap.size w w'):Af w':=h.below (hb.mono h.ng)
theorem W6{g o n cap:Nat}{t:By}(h:JS w D R wp jn iv ch Tb Mb wb T a v M js)(hT:Af w)(hv:Zx d x B v)(hx:Zx d x B xv)(hB:B<=900000000)(hl:js.length<=1000000000)(hy:Rep top F w (.pointer y) xv)(hn:n=s.length)(hc:n+1<=cap)(qr:cap<=maxLen)(zb:GA (top+1) Tb wb M g)(hp:CQ w g o (s++[t]))(qn:Z2 (s++[t])):
  AT AI 197 #[.pointer (some ⟨D,0,none⟩),.slice (some ⟨g,o,none⟩) (n+1) cap,.pointer y] w fun e w'=>AM D R iv ch Tb Mb wb M js w (CP v (s++[t]) xv) e w':=by
 have hM:∀k,M k->k<w.heap.size:=fun k hk=>(h.j.low k hk).1;have p1:=qn.len;have p2:=qn.tok;have qj:∀u∈s,u.length<=1048576:=by grind
 have qe:t.length<=1048576:=by grind
 have hsl:s.length<=1048576:=by grind
 have q0:=Jh hy hx (B:=B) (by omega);have qg:∀w1,AS w.heap.size w w1->CQ w1 g o (s++[t]):=fun w1 hb=>hp.move (hb.block g hp.1);have q9:∀ {r:Except Nat (To×List Zk)} {e:Ending} {w1 w2:A3},AS w.heap.size w w1->AM D R iv ch Tb Mb wb M js w1 r e w2->AM D R iv ch Tb Mb wb M js w r e w2:=fun hb k=>AM.below hb hM k;subst hn;unfold CP;rw[Dv];simp only;cases hf:Ak v s with
 | error c=>
  refine (UQ (t:=t) (Cc hf) (Q:=fun w'=>AS w.heap.size w w') q0 (fun z w1 hq=>(Jz (h.bel hq.1) (hT.bel hq.1).rng (qg w1 hq.1) rfl hc qr qj hsl hf).mono ?_)).mono ?_
  ·rintro e w' ⟨rfl,hb⟩;exact⟨rfl,hq.1.trans (hb.mono hq.1.size)⟩
  ·rintro e w' ⟨rfl,hb⟩;exact h.err hb
 | ok nv=>
  have qk:=h.t.str;have hf2:=hf;rw[<- qk] at hf2;obtain⟨f,q,m,u,e1,e2,e3,e4,e5⟩:=Cy h.t.sub hf2;obtain⟨g',eT⟩:=h.t.one;obtain⟨n1,n2,n3,n4,n5,n6,n7⟩:=h.node hv e1 e2 e3;rw[qk] at e5;obtain⟨k1,k2⟩:=h.value (m':=m) eT e1 e2;obtain⟨ub,rfl,_⟩:=e3.ptr;have q6:∀z w1,Frs w xv z w1->AT AI 243 #[.pointer (some ⟨D,0,none⟩),.slice (some ⟨g,o,none⟩) (s.length+1) cap] w1 fun e w'=>e=.returned (.tuple #[.pointer (some ⟨ub,0,none⟩),.string ⟨t.toArray⟩,.int .i64 0])/\Frs w xv z w':=fun z w1 hq=>by
   refine (Hj (h.bel hq.1) (hT.bel hq.1).rng (qg w1 hq.1) rfl hc qr qj hsl hf e2 (e3.bel hq.1) e5).mono ?_;rintro e w' ⟨rfl,hb⟩;exact⟨rfl,hq.bel hb⟩
  have qd:f<=top:=by omega
  have qf:=e3;obtain⟨b,gg,xx,rfl,q8,qf⟩:=qf;injection q8 with q8;injection q8 with q8;injection q8 with q8 _ _;subst q8;simp only;rw[<- e4];rcases qf with⟨k,hk,_,rfl,hvb⟩|⟨nm,_,rfl,hvb,za⟩|⟨st,_,rfl,hvb⟩|⟨al,sl,ps,rfl,hvb,ho,hs,ha⟩|⟨es,nn,DD,rfl,hvb,ho,z7⟩
  ·refine (Hz (t:=t) (b:=ub) (k:=k) (by omega) (by omega) (Q1:=Frs w xv) (Q:=fun w'=>AS w.heap.size w w') q0 (fun z w1 hq=>(q6 z w1 hq).mono ?_) (fun w2 hb=>?_)).mono ?_
   ·rintro e w' ⟨rfl,hb⟩;exact⟨rfl,hb.1⟩
   ·exact (hb.cell (p:=⟨_,0,none⟩) hvb.lt).trans hvb.c0
   ·rintro e w' ⟨rfl,hb⟩;exact h.err hb
  ·refine (Hz (t:=t) (b:=ub) (k:=3) (by omega) (by omega) (Q1:=Frs w xv) (Q:=fun w'=>AS w.heap.size w w') q0 (fun z w1 hq=>(q6 z w1 hq).mono ?_) (fun w2 hb=>?_)).mono ?_
   ·rintro e w' ⟨rfl,hb⟩;exact⟨rfl,hb.1⟩
   ·exact (hb.cell (p:=⟨_,0,none⟩) hvb.lt).trans hvb.c0
   ·rintro e w' ⟨rfl,hb⟩;exact h.err hb
  ·refine (Hz (t:=t) (b:=ub) (k:=4) (by omega) (by omega) (Q1:=Frs w xv) (Q:=fun w'=>AS w.heap.size w w') q0 (fun z w1 hq=>(q6 z w1 hq).mono ?_) (fun w2 hb=>?_)).mono ?_
   ·rintro e w' ⟨rfl,hb⟩;exact⟨rfl,hb.1⟩
   ·exact (hb.cell (p:=⟨_,0,none⟩) hvb.lt).trans hvb.c0
   ·rintro e w' ⟨rfl,hb⟩;exact h.err hb
  ·-- an array
   have qy:al.length<=B:=n4;have qm:ps.length=al.length:=ha.length;have q4:∀z w2,Frs w xv z w2->VB w2 ub 5 n0 [] sl (.map none)/\w2.ownsRow 0 80 1 sl ps.length ps:=fun z w2 hq=>by
    refine⟨hvb.kept (hq.1.block _ hvb.lt),AX ho fun g1 z1=>hq.1.block _ (Aw ho g1 z1).1⟩
   cases hsl2:ER al.length t with
   | error c=>
    have hr:Dm v s t (Zi (f+1) (Zj ub gg (.slice al []))) xv=.error c:=by
     rw[Bn];unfold Dm Ap
     grind
    rw[hr];refine (SQ (t:=t) (b:=ub) (Mr hsl2) (Q1:=Frs w xv) (Q2:=Frs w xv) (Q:=fun w'=>AS w.heap.size w w') q0 q6 (fun z w2 hq=>(q4 z w2 hq).1.c0) (fun z w2 hq=>?_)).mono ?_
    ·obtain⟨c1,c2⟩:=q4 z w2 hq;refine (Ms qe (hT.bel hq.1).rng c1 c2).mono ?_;rintro e w' ⟨rfl,hb⟩;rw[qm,hsl2];exact⟨rfl,hq.1.trans (hb.mono hq.1.size)⟩
    ·rintro e w' ⟨rfl,hb⟩;exact h.err hb
   | ok i=>
    have hi:=ON hsl2;have hr:Dm v s t (Zi (f+1) (Zj ub gg (.slice al []))) xv=.ok (Cd q (FV i bS xv (Zi (f+1) (Zj ub gg (.slice al [])))) v,[(1,s++[C2 (i:Int)],.nil)]):=by
     rw[Bn];unfold Dm Ap;simp only[CD,hsl2,CZ e5]
    rw[hr];refine (US (b:=ub) (i:=i) (Q1:=Frs w xv) (Q2:=Frs w xv) (Q3:=Frs w xv) (Q4:=fun z g2 c2 w4=>∃w3,Frs w xv z w3/\AS w3.heap.size w3 w4/\w4.ownsRow w3.heap.size 9 1 (.slice (some ⟨g2,0,none⟩) (s.length+1) c2) (s.length+1) (LV (s++[C2 (i:Int)])))
     (Q:=fun w'=>AM D R iv ch Tb Mb wb M js w (.ok (Cd q (FV i bS xv (Zi (f+1) (Zj ub gg (.slice al [])))) v,[(1,s++[C2 (i:Int)],.nil)])) (.returned (.int .i64 0)) w')
     q0 q6 (fun z w2 hq=>(q4 z w2 hq).1.c0) (fun z w2 hq=>?_) (fun z w3 hq=>?_) (fun z g2 c2 w4 hq=>?_)).mono ?_
    ·obtain⟨c1,c2⟩:=q4 z w2 hq;refine (Ms qe (hT.bel hq.1).rng c1 c2).mono ?_;rintro e w' ⟨rfl,hb⟩;rw[qm,hsl2];exact⟨rfl,hq.bel hb⟩
    ·refine (Ov (l:=s++[t]) (hT.bel hq.1) (qg w3 hq.1) (by simp) (by simp;omega) (by omega)).mono ?_
     grind
    ·obtain⟨w3,qb,hb3,qh⟩:=hq;have qw:=qb.1.trans (hb3.mono qb.1.size);obtain⟨g3,qz,ev,r1,r2,r3,r4⟩:=Bh qh (by omega);injection ev with ev _ ev3;injection ev with ev;injection ev with ev _ _;subst ev;subst ev3;have qu:w3.heap.size<=g2/\g2<w4.heap.size:=⟨(AC qh g2 rfl).2,(AC qh g2 rfl).1⟩
     obtain⟨ax,b1,b2,qq,b3,b4,b5⟩:=Frs.at h qb hx n3 qd;have z6:=qb.1.size;obtain⟨hG,hE⟩:=h.grow qw (fun k=>k=g2) (by omega);have qi:=R1 (i:=i) (key:=[]) (path:=s++[C2 (i:Int)]) (pa:=some ⟨g2,0,none⟩) (pl:=s.length+1) (pc:=c2) (m:=Zj ub gg (.slice al [])) (c:=ax) (px:=z) n1 hG.j n2 (Dt ⟨ub,gg,al,rfl,hi⟩) ⟨by omega,by simp⟩ hl
      (Dp ⟨g2,0,c2,by simp,by grind,r2,⟨Dp rfl,Dt (by have:=h.j.up.1;omega)⟩,qu.2,by grind⟩) (b1.bel hb3) b3 (by grind)
     refine qi.mono ?_;rintro e w5 ⟨rfl,qx,T',M',q1,q2,q3⟩;refine⟨rfl,?_⟩;obtain⟨k1,k2⟩:=h.value (m':=BI i [] ax (Zj ub gg (.slice al []))) eT e1 e2;rw[OL (Dt ⟨_,_,_,rfl⟩),b2] at k2;rw[k1] at q1;obtain⟨qv,a',hj⟩:=JS.of q2 q1;rw[k2] at hj;exact⟨rfl,qv,qx,T',a',M',hj,hE.trans q3⟩
    grind
  ·-- an object
   have qy:es.length<=B:=by rw[<- CD (f:=D1)];exact n4
   have q4:∀z w2,Frs w xv z w2->w2.cell? ⟨ub,0,none⟩=some (.int .i64 6):=fun z w2 hq=>(hvb.kept (hq.1.block _ hvb.lt)).c0;have q5:AL (es.map fun p=>(p.1,Zi f p.2)):=by
    obtain⟨_,hh⟩:=n5;rw[AZ] at hh;rcases hh with⟨_,_,hh⟩|⟨_,_,hh⟩|⟨_,_,_,_,hh⟩|⟨_,_,hh⟩|⟨es',h1,h2,hh⟩
    ·cases hh
    ·cases hh
    ·cases hh
    ·cases hh
    ·injection hh with hh;subst hh;exact⟨h1,by grind⟩
   have qp:AL es:=by
    refine⟨?_,fun p hp=>q5.2 (p.1,Zi f p.2) (by grind)⟩;have:=q5.1
    grind
   have q7:∀w1,AS w.heap.size w w1->Au w1 (GA (top+1) Tb wb M) (.slice (some ⟨g,o,none⟩) (s.length+1) cap) (s++[t]):=fun w1 hb=>Dp (by grind);cases hh:Maps.has (.map (es.map fun p=>(p.1,Zi f p.2)):To) (.string t) with
   | true=>
    obtain⟨p',qt,qo,hk2⟩:=Pc (OP q5.1 q5.2) q5.2 hh;obtain⟨p0,z8,rfl⟩:=D0.1 qt;obtain⟨k0,c0⟩:=p0;simp only at qo hk2;subst qo;have hr:Dm v s t (Zi (f+1) (Zj ub gg (.map es))) xv=.ok (Cd q (Hc 0 t xv (Zi (f+1) (Zj ub gg (.map es)))) v,[(2,s++[t],Zi f c0)]):=by
     rw[AZ];unfold Dm Ay;simp only[if_pos hh,CZ e5,hk2]
    rw[hr];refine (NC (Q1:=Frs w xv) (Q2:=Frs w xv) (Q:=fun w'=>AM D R iv ch Tb Mb wb M js w (.ok (Cd q (Hc 0 t xv (Zi (f+1) (Zj ub gg (.map es)))) v,[(2,s++[t],Zi f c0)])) (.returned (.int .i64 0)) w') q0 q6 q4 (fun z w2 hq=>?_)).mono ?_
    ·obtain⟨ax,b1,b2,qq,b3,b4,b5⟩:=Frs.at h hq hx n3 qd;refine (MB (i:=0) (key:=t) (m:=Zj ub gg (.map es)) (c:=c0) n1 (h.bel hq.1).j n2 (Dp (by grind)) ⟨by omega,qe⟩ hl (q7 w2 hq.1) qd b1 b3 b5).mono ?_;rintro e w' ⟨rfl,he⟩;obtain⟨k1,k2⟩:=h.value (m':=Br 0 t ax (Zj ub gg (.map es))) eT e1 e2;rw[OJ (Dp ⟨_,_,_,rfl⟩),b2] at k2;exact⟨rfl,q9 hq.1 (JS.ok he k1 k2)⟩
    grind
   | false=>
    have hr:Dm v s t (Zi (f+1) (Zj ub gg (.map es))) xv=.ok (Cd q (FV 0 t xv (Zi (f+1) (Zj ub gg (.map es)))) v,[(1,s++[t],.nil)]):=by
     rw[AZ];unfold Dm Ay;simp only[hh,CZ e5];rfl
    rw[hr];have hno:∀p∈es,p.1≠C1 t:=fun p hp e=>by
     have h1:Maps.has (.map (es.map fun p=>(p.1,Zi f p.2)):To) (.string t)=true:=List.any_eq_true.2 ⟨_,D0.2 ⟨p,hp,rfl⟩,by show p.1.sameKey _=true;rw[e];exact WideAt.sameKey_self (show WideAt.IsKeyLit (C1 t) from trivial)⟩
     grind
    refine (NC (Q1:=Frs w xv) (Q2:=Frs w xv) (Q:=fun w'=>AM D R iv ch Tb Mb wb M js w (.ok (Cd q (FV 0 t xv (Zi (f+1) (Zj ub gg (.map es)))) v,[(1,s++[t],.nil)])) (.returned (.int .i64 0)) w') q0 q6 q4 (fun z w2 hq=>?_)).mono ?_
    ·obtain⟨ax,b1,b2,qq,b3,b4,b5⟩:=Frs.at h hq hx n3 qd;refine (OR (i:=0) (key:=t) (b:=ub) (g:=gg) (es:=es) n1 (h.bel hq.1).j n2 hno ⟨by omega,qe⟩ hl (q7 w2 hq.1) b1 b3 b5).mono ?_;rintro e w' ⟨rfl,he⟩;obtain⟨k1,k2⟩:=h.value (m':=BI 0 t ax (Zj ub gg (.map es))) eT e1 e2;rw[OL (Dp ⟨_,_,_,rfl⟩),b2] at k2;exact⟨rfl,q9 hq.1 (JS.ok he k1 k2)⟩
    grind
theorem KG{pv:CR}{p:List By}(h:JS w D R wp jn iv ch Tb Mb wb T a v M js)(hT:Af w)(hv:Zx d x B v)(hx:Zx d x B xv)(hB:B<=900000000)(hl:js.length<=1000000000)(hy:Rep top F w (.pointer y) xv)(hp:Au w (GA (top+1) Tb wb M) pv p)(q5:Z2 p):
  AT AI 197 #[.pointer (some ⟨D,0,none⟩),pv,.pointer y] w fun e w'=>AM D R iv ch Tb Mb wb M js w (CP v p xv) e w':=by
 rcases hp with⟨rfl,pa,c,rfl,_⟩|⟨g,o,cap,rfl,h1,h2,h3,h4⟩
 ·exact LH h hx (by omega) hl hy
 ·by_cases q4:p=[]
  ·subst q4;exact LH h hx (by omega) hl hy
  ·obtain⟨s,t,rfl⟩:∃s t,p=s++[t]:=⟨p.dropLast,p.getLast q4,(List.dropLast_concat_getLast q4).symm⟩
   have q0:(s++[t]).length=s.length+1:=by simp
   rw[q0] at h1 |-;exact W6 h hT hv hx hB hl hy rfl h1 h2 h3 h4 q5
end
abbrev opV(k:Nat)(pa:Option Addr)(pl pc:Nat)(fa:Option Addr)(fl fc:Nat)(y:Option Addr):CR:=.agg #[.int .i64 k,.slice pa pl pc,.slice fa fl fc,.pointer y]
def OpB(w:A3)(q k:Nat)(pa:Option Addr)(pl pc:Nat)(fa:Option Addr)(fl fc:Nat)(y:Option Addr):Prop:=w.heap[q]? = some (.cells #[.int .i64 k,.slice pa pl pc,.slice fa fl fc,.pointer y] 178 (0,0))
section
variable{w:A3}{q k:Nat}{pa fa y:Option Addr}{pl pc fl fc:Nat}
theorem OpB.lt(h:OpB w q k pa pl pc fa fl fc y):q<w.heap.size:=(Bs.1 h).1
theorem OpB.c0(h:OpB w q k pa pl pc fa fl fc y):w.cell? ⟨q,0,none⟩=some (.int .i64 k):=by simp[CL,show w.heap[q]? = _ from h]
theorem OpB.c1(h:OpB w q k pa pl pc fa fl fc y):w.cell? ⟨q,1,none⟩=some (.slice pa pl pc):=by simp[CL,show w.heap[q]? = _ from h]
theorem OpB.c2(h:OpB w q k pa pl pc fa fl fc y):w.cell? ⟨q,2,none⟩=some (.slice fa fl fc):=by simp[CL,show w.heap[q]? = _ from h]
theorem OpB.c3(h:OpB w q k pa pl pc fa fl fc y):w.cell? ⟨q,3,none⟩=some (.pointer y):=by simp[CL,show w.heap[q]? = _ from h]
theorem OpB.low{w':A3}(h:OpB w q k pa pl pc fa fl fc y)(hb:AS w.heap.size w w'):OpB w' q k pa pl pc fa fl fc y:=(hb.block q h.lt).trans h
end
section
variable{w:A3}{D k b i:Nat}{pa fa qa y:Option Addr}{pl pc fl fc ql qc c:Nat}{key:By}{Q:A3->Prop}
theorem SG{Q:Nat->A3->Prop}(hA:∀w1,AS w.heap.size w w1->AT AI 197 #[.pointer (some ⟨D,0,none⟩),.slice pa pl pc,.pointer y] w1 fun e w'=>∃c:Nat,e=.returned (.int .i64 c)/\Hid (Q c w')):
  AT AI 151 #[.pointer (some ⟨D,0,none⟩),opV k pa pl pc fa fl fc y] w fun e w'=>∃c:Nat,e=.returned (.int .i64 c)/\Q c w':=by
 have HA:=Ab hA;have q0:=Ab ((A4 w.heap.size w).alloc (A1 _) (.cells #[.int .i64 k,.slice pa pl pc,.slice fa fl fc,.pointer y] 178));clear hA
 go_enter func151,ntmps151
 go_wp2_with (fail);refine (Aa HA _ (Aa q0)).mono ?_
 rintro e w2 ⟨c,rfl,hq⟩
 go_wp2_with (fail)
 go_ret;exact⟨c,rfl,Aa hq⟩
theorem Ns:AT AI 152 #[.pointer (some ⟨D,0,none⟩),opV k pa 0 pc fa fl fc y] w fun e w'=>e=.returned (.int .i64 11)/\AS w.heap.size w w':=by
 have q0:=Ab ((A4 w.heap.size w).alloc (A1 _) (.cells #[.int .i64 k,.slice pa 0 pc,.slice fa fl fc,.pointer y] 178))
 go_enter func152,ntmps152
 go_wp2_with (fail)
 go_ret;exact⟨rfl,Aa q0⟩
theorem Nt(hl:pl≠0)(hc:c≠0)(hT:∀w1,AS w.heap.size w w1->AT AI 198 #[.pointer (some ⟨D,0,none⟩),.slice pa pl pc] w1 fun e w'=>e=.returned (.tuple #[plZ,.int .i64 c])/\AS w1.heap.size w1 w'):
  AT AI 152 #[.pointer (some ⟨D,0,none⟩),opV k pa pl pc fa fl fc y] w fun e w'=>e=.returned (.int .i64 c)/\AS w.heap.size w w':=by
 have HT:=Ab hT;have hob:OpB (w.alloc (.cells #[.int .i64 k,.slice pa pl pc,.slice fa fl fc,.pointer y] 178)) w.heap.size k pa pl pc fa fl fc y:=A2 w _;have q0:=(A4 w.heap.size w).alloc (A1 _) (.cells #[.int .i64 k,.slice pa pl pc,.slice fa fl fc,.pointer y] 178);have q4:=Ab q0;have q5:=Ab hob;have hs:=q0.size;have e0:¬ ((pl:Int)=0):=by omega
 have e2:((c:Int) != 0)=true:=by rw[bne_iff_ne];omega
 have e3:((c:Int)==0)=false:=by rw[beq_eq_false_iff_ne];omega
 have b1:=hob.c1;clear hT hob q0 hc hl
 go_enter func152,ntmps152
 go_wp2_with (fail);generalize w.alloc (.cells #[.int .i64 k,.slice pa pl pc,.slice fa fl fc,.pointer y] 178)=wa at *
 go_wp2_with (fail);refine (Aa HT wa (Aa q4)).mono ?_
 rintro e w2 ⟨rfl,hb⟩;have hs2:=hb.size;have HB:=Ab ((Aa q4).trans (hb.mono (by omega)));clear hb b1
 go_wp2_with (fail)
 go_ret;exact⟨rfl,(Aa HB).alloc (by omega) _⟩
theorem Oo(hl:pl≠0)(hT:∀w1,AS w.heap.size w w1->AT AI 198 #[.pointer (some ⟨D,0,none⟩),.slice pa pl pc] w1 fun e w'=>e=.returned (.tuple #[plV (.slice qa ql qc) b key i,.int .i64 0])/\AS w1.heap.size w1 w')(hR:∀w1,AS w.heap.size w w1->AT AI 199 #[.pointer (some ⟨D,0,none⟩),plV (.slice qa ql qc) b key i] w1 fun e w'=>e=.returned (.tuple #[])/\Q w'):
  AT AI 152 #[.pointer (some ⟨D,0,none⟩),opV k pa pl pc fa fl fc y] w fun e w'=>e=.returned (.int .i64 0)/\Q w':=by
 have HT:=Ab hT;have HR:=Ab hR;have hob:OpB (w.alloc (.cells #[.int .i64 k,.slice pa pl pc,.slice fa fl fc,.pointer y] 178)) w.heap.size k pa pl pc fa fl fc y:=A2 w _;have q4:=(A4 w.heap.size w).alloc (A1 _) (.cells #[.int .i64 k,.slice pa pl pc,.slice fa fl fc,.pointer y] 178);have q5:=Ab q4;have hs:=q4.size;have e0:¬ ((pl:Int)=0):=by omega
 have b1:=hob.c1;clear hT hR hob q4 hl
 go_enter func152,ntmps152
 go_wp2_with (fail);generalize w.alloc (.cells #[.int .i64 k,.slice pa pl pc,.slice fa fl fc,.pointer y] 178)=wa at *
 go_wp2_with (fail);refine (Aa HT wa (Aa q5)).mono ?_
 rintro e w2 ⟨rfl,hb⟩;have hs2:=hb.size;have q0:AJ (plW w2 qa ql qc b key i) w2.heap.size (.slice qa ql qc) b key i:=A2 w2 _;have HB:=Ab (((Aa q5).trans (hb.mono (by omega))).alloc (by omega) (.cells #[.slice qa ql qc,.pointer (some ⟨b,0,none⟩),.string ⟨key.toArray⟩,.int .i64 i] 185));have e0:=q0.c0;have e1:=q0.c1;have e2:=q0.c2;have e3:=q0.c3;clear hb b1 q0
 go_wp2_with (fail);refine (Aa HR _ (Aa HB)).mono ?_
 rintro e w3 ⟨rfl,hq⟩;have HQ:=Ab hq;clear hq
 go_wp2_with (fail)
 go_ret;exact⟨rfl,Aa HQ⟩
theorem LP(hc:c≠0)(hT:∀w1,AS w.heap.size w w1->AT AI 198 #[.pointer (some ⟨D,0,none⟩),.slice pa pl pc] w1 fun e w'=>e=.returned (.tuple #[plZ,.int .i64 c])/\AS w1.heap.size w1 w'):
  AT AI 153 #[.pointer (some ⟨D,0,none⟩),opV k pa pl pc fa fl fc y] w fun e w'=>e=.returned (.int .i64 c)/\AS w.heap.size w w':=by
 have HT:=Ab hT;have hob:OpB (w.alloc (.cells #[.int .i64 k,.slice pa pl pc,.slice fa fl fc,.pointer y] 178)) w.heap.size k pa pl pc fa fl fc y:=A2 w _;have q0:=(A4 w.heap.size w).alloc (A1 _) (.cells #[.int .i64 k,.slice pa pl pc,.slice fa fl fc,.pointer y] 178);have q4:=Ab q0;have hs:=q0.size;have e2:((c:Int) != 0)=true:=by rw[bne_iff_ne];omega
 have e3:((c:Int)==0)=false:=by rw[beq_eq_false_iff_ne];omega
 have b1:=hob.c1;clear hT hob q0 hc
 go_enter func153,ntmps153
 go_wp2_with (fail);generalize w.alloc (.cells #[.int .i64 k,.slice pa pl pc,.slice fa fl fc,.pointer y] 178)=wa at *
 go_wp2_with (fail);refine (Aa HT wa (Aa q4)).mono ?_
 rintro e w2 ⟨rfl,hb⟩;have hs2:=hb.size;have HB:=Ab ((Aa q4).trans (hb.mono (by omega)));clear hb b1
 go_wp2_with (fail)
 go_ret;exact⟨rfl,(Aa HB).alloc (by omega) _⟩
theorem Nr{Q1:Option Addr->A3->Prop}(hT:∀w1,AS w.heap.size w w1->AT AI 198 #[.pointer (some ⟨D,0,none⟩),.slice pa pl pc] w1 fun e w'=>e=.returned (.tuple #[plV (.slice qa ql qc) b key i,.int .i64 0])/\AS w1.heap.size w1 w')(hC:∀w1,AS w.heap.size w w1->AT AI 201 #[.pointer y] w1 fun e w'=>∃x,e=.returned (.pointer x)/\AS w1.heap.size w1 w'/\Hid (Q1 x w'))(hS:∀x w1 w2,Q1 x w1->AS w.heap.size w w1->AS w1.heap.size w1 w2->AT AI 200 #[.pointer (some ⟨D,0,none⟩),plV (.slice qa ql qc) b key i,.pointer x] w2 fun e w'=>e=.returned (.tuple #[])/\Q w'):
  AT AI 153 #[.pointer (some ⟨D,0,none⟩),opV k pa pl pc fa fl fc y] w fun e w'=>e=.returned (.int .i64 0)/\Q w':=by
 have HT:=Ab hT;have HC:=Ab hC;have HS:=Ab hS;have hob:OpB (w.alloc (.cells #[.int .i64 k,.slice pa pl pc,.slice fa fl fc,.pointer y] 178)) w.heap.size k pa pl pc fa fl fc y:=A2 w _;have q8:=(A4 w.heap.size w).alloc (A1 _) (.cells #[.int .i64 k,.slice pa pl pc,.slice fa fl fc,.pointer y] 178);have qb:=Ab q8;have qe:=Ab hob;have hs:=q8.size;have b1:=hob.c1;clear hT hC hS hob q8
 go_enter func153,ntmps153
 go_wp2_with (fail);generalize w.alloc (.cells #[.int .i64 k,.slice pa pl pc,.slice fa fl fc,.pointer y] 178)=wa at *
 go_wp2_with (fail);refine (Aa HT wa (Aa qb)).mono ?_
 rintro e w2 ⟨rfl,hb⟩;have hs2:=hb.size;obtain⟨w3,q7⟩:∃w3,w3=w2.alloc (.cells #[.slice qa ql qc,.pointer (some ⟨b,0,none⟩),.string ⟨key.toArray⟩,.int .i64 i] 185):=⟨_,rfl⟩
 have q4:AJ w3 w2.heap.size (.slice qa ql qc) b key i:=by rw[q7];exact A2 w2 _
 have qd:w2.heap.size<w3.heap.size:=(Bs.1 q4).1;have q5:AS w2.heap.size w2 w3:=by rw[q7];exact (A4 _ _).alloc (A1 _) _
 have hB:=((Aa qb).trans (hb.mono (by omega))).trans (q5.mono (by omega));have q6:OpB w3 w.heap.size k pa pl pc fa fl fc y:=((Aa qe).low hb).low q5;have qg:=Ab q4;have HB:=Ab hB;have q9:=Ab q7;have b3:=q6.c3;have e0:=q4.c0;have e1:=q4.c1;have e2:=q4.c2;have e3:=q4.c3;clear hb b1 q4 hB q6 q5 q7
 go_wp2_with (fail);rw[<- Aa q9]
 clear q9
 go_region_with (first
  | (go_at_call 201;refine (Aa HC _ ?_).mono ?_;exact⟨(Aa HB).os,(Aa HB).tape,(Aa HB).output,(Aa HB).size,(Aa HB).block⟩;rintro x w4 ⟨z,rfl,q0,qf⟩;replace q0:AS w3.heap.size w3 w4:=⟨q0.os,q0.tape,q0.output,q0.size,q0.block⟩;have p4:AJ w4 w2.heap.size (.slice qa ql qc) b key i:=(q0.block _ qd).trans (Aa qg);have f0:=p4.c0;have f1:=p4.c1;have f2:=p4.c2;have f3:=p4.c3;have qh:=Ab q0;clear q0 p4)
  | (go_at_call 200;refine (Aa HS z w4 _ (Aa qf) ((Aa HB).trans ((Aa qh).mono (Aa HB).size)) ?_).mono ?_;exact⟨rfl,rfl,rfl,A1 _,fun _ _=>rfl⟩;rintro x w5 ⟨rfl,hq⟩;have HQ:=Ab hq;clear hq))
 all_goals (
  go_wp2_with (fail)
  go_ret;exact⟨rfl,Aa HQ⟩)
end
section
variable{w:A3}{D k b i:Nat}{pa fa qa y wp:Option Addr}{pl pc fl fc ql qc c:Nat}{key:By}{Q:A3->Prop}
theorem Ql(hc:c≠0)(hT:∀w1,AS w.heap.size w w1->AT AI 198 #[.pointer (some ⟨D,0,none⟩),.slice fa fl fc] w1 fun e w'=>e=.returned (.tuple #[plZ,.int .i64 c])/\AS w1.heap.size w1 w'):
  AT AI 154 #[.pointer (some ⟨D,0,none⟩),opV k pa pl pc fa fl fc y] w fun e w'=>e=.returned (.int .i64 c)/\AS w.heap.size w w':=by
 have HT:=Ab hT;have hob:OpB (w.alloc (.cells #[.int .i64 k,.slice pa pl pc,.slice fa fl fc,.pointer y] 178)) w.heap.size k pa pl pc fa fl fc y:=A2 w _;have q0:=(A4 w.heap.size w).alloc (A1 _) (.cells #[.int .i64 k,.slice pa pl pc,.slice fa fl fc,.pointer y] 178);have q4:=Ab q0;have hs:=q0.size;have e2:((c:Int) != 0)=true:=by rw[bne_iff_ne];omega
 have e3:((c:Int)==0)=false:=by rw[beq_eq_false_iff_ne];omega
 have b2:=hob.c2;clear hT hob q0 hc
 go_enter func154,ntmps154
 go_wp2_with (fail);generalize w.alloc (.cells #[.int .i64 k,.slice pa pl pc,.slice fa fl fc,.pointer y] 178)=wa at *
 go_wp2_with (fail);refine (Aa HT wa (Aa q4)).mono ?_
 rintro e w2 ⟨rfl,hb⟩;have hs2:=hb.size;have HB:=Ab ((Aa q4).trans (hb.mono (by omega)));clear hb b2
 go_wp2_with (fail)
 go_ret;exact⟨rfl,(Aa HB).alloc (by omega) _⟩
structure FP(w:A3)(k:Nat)(pa:Option Addr)(pl pc:Nat)(fa:Option Addr)(fl fc:Nat)(y:Option Addr)(qa:Option Addr)(ql qc b:Nat)(key:By)(i q:Nat)(w3:A3):Prop where
 bel:AS w.heap.size w w3
 op:OpB w3 w.heap.size k pa pl pc fa fl fc y
 pb:AJ w3 q (.slice qa ql qc) b key i
 le:w.heap.size<q
theorem FP.low{w w3 w4:A3}{q:Nat}(h:FP w k pa pl pc fa fl fc y qa ql qc b key i q w3)(hb:AS w3.heap.size w3 w4):FP w k pa pl pc fa fl fc y qa ql qc b key i q w4:=
 ⟨h.bel.trans (hb.mono h.bel.size),h.op.low hb,(hb.block q (Bs.1 h.pb).1).trans h.pb,h.le⟩
theorem FP.mk'{w wa w3:A3}(h1:AS w.heap.size w wa)(h2:OpB wa w.heap.size k pa pl pc fa fl fc y)(hb:AS wa.heap.size wa w2)(q0:w3=w2.alloc (.cells #[.slice qa ql qc,.pointer (some ⟨b,0,none⟩),.string ⟨key.toArray⟩,.int .i64 i] 185)):FP w k pa pl pc fa fl fc y qa ql qc b key i w2.heap.size w3:=by
 have hs:=hb.size;have h3:=h2.lt;have hb2:AS w2.heap.size w2 w3:=by rw[q0];exact (A4 _ _).alloc (A1 _) _
 refine⟨(h1.trans (hb.mono h1.size)).trans (hb2.mono (by have:=h1.size;omega)),(h2.low hb).low hb2,by rw[q0];exact A2 w2 _,by omega⟩
theorem Oq(hT:∀w1,AS w.heap.size w w1->AT AI 198 #[.pointer (some ⟨D,0,none⟩),.slice fa fl fc] w1 fun e w'=>e=.returned (.tuple #[plV (.slice qa ql qc) b key i,.int .i64 0])/\AS w1.heap.size w1 w')(hE:∀w1,AS w.heap.size w w1->AT AI 202 #[.slice fa fl fc,.slice pa pl pc] w1 fun e w'=>e=.returned (.bool true)/\AS w1.heap.size w1 w'):
  AT AI 154 #[.pointer (some ⟨D,0,none⟩),opV k pa pl pc fa fl fc y] w fun e w'=>e=.returned (.int .i64 0)/\AS w.heap.size w w':=by
 have HT:=Ab hT;have HE:=Ab hE;have hob:OpB (w.alloc (.cells #[.int .i64 k,.slice pa pl pc,.slice fa fl fc,.pointer y] 178)) w.heap.size k pa pl pc fa fl fc y:=A2 w _;have q7:=(A4 w.heap.size w).alloc (A1 _) (.cells #[.int .i64 k,.slice pa pl pc,.slice fa fl fc,.pointer y] 178);have q6:=Ab q7;have q0:=Ab hob;have b2:=hob.c2;clear hT hE hob q7
 go_enter func154,ntmps154
 go_wp2_with (fail);generalize w.alloc (.cells #[.int .i64 k,.slice pa pl pc,.slice fa fl fc,.pointer y] 178)=wa at *
 go_wp2_with (fail);refine (Aa HT wa (Aa q6)).mono ?_
 rintro e w2 ⟨rfl,hb⟩;obtain⟨w3,q4⟩:∃w3,w3=w2.alloc (.cells #[.slice qa ql qc,.pointer (some ⟨b,0,none⟩),.string ⟨key.toArray⟩,.int .i64 i] 185):=⟨_,rfl⟩
 have hM:=FP.mk' (qa:=qa) (ql:=ql) (qc:=qc) (b:=b) (key:=key) (i:=i) (Aa q6) (Aa q0) hb q4;have HM:=Ab hM;have q5:=Ab q4;have c1:=hM.op.c1;have c2:=hM.op.c2;have k1:∀o,(w2.alloc o).cell? ⟨w.heap.size,1,none⟩=some (.slice pa pl pc):=fun o=>(A5 (w:=w2) (A6 w2 o _ ((Aa q0).low hb).lt)).trans ((Aa q0).low hb).c1;have k2:∀o,(w2.alloc o).cell? ⟨w.heap.size,2,none⟩=some (.slice fa fl fc):=fun o=>(A5 (w:=w2) (A6 w2 o _ ((Aa q0).low hb).lt)).trans ((Aa q0).low hb).c2;clear hb b2 hM q4
 go_wp2_with (fail);rw[<- Aa q5]
 clear q5 k1 k2;refine (Aa HE w3 (Aa HM).bel).mono ?_;rintro e w4 ⟨rfl,hb⟩;have q8:=Ab ((Aa HM).low hb);clear hb c1 c2
 go_wp2_with (fail)
 go_ret;exact⟨rfl,(Aa q8).bel⟩
theorem Nv(hT:∀w1,AS w.heap.size w w1->AT AI 198 #[.pointer (some ⟨D,0,none⟩),.slice fa fl fc] w1 fun e w'=>e=.returned (.tuple #[plV (.slice qa ql qc) b key i,.int .i64 0])/\AS w1.heap.size w1 w')(hE:∀w1,AS w.heap.size w w1->AT AI 202 #[.slice fa fl fc,.slice pa pl pc] w1 fun e w'=>e=.returned (.bool false)/\AS w1.heap.size w1 w')(hL:∀w1,AS w.heap.size w w1->AT AI 203 #[.slice pa pl pc,.slice fa fl fc] w1 fun e w'=>e=.returned (.bool true)/\AS w1.heap.size w1 w'):
  AT AI 154 #[.pointer (some ⟨D,0,none⟩),opV k pa pl pc fa fl fc y] w fun e w'=>e=.returned (.int .i64 13)/\AS w.heap.size w w':=by
 have HT:=Ab hT;have HE:=Ab hE;have HL:=Ab hL;have hob:OpB (w.alloc (.cells #[.int .i64 k,.slice pa pl pc,.slice fa fl fc,.pointer y] 178)) w.heap.size k pa pl pc fa fl fc y:=A2 w _;have q9:=(A4 w.heap.size w).alloc (A1 _) (.cells #[.int .i64 k,.slice pa pl pc,.slice fa fl fc,.pointer y] 178);have q7:=Ab q9;have q0:=Ab hob;have b2:=hob.c2;clear hT hE hL hob q9
 go_enter func154,ntmps154
 go_wp2_with (fail);generalize w.alloc (.cells #[.int .i64 k,.slice pa pl pc,.slice fa fl fc,.pointer y] 178)=wa at *
 go_wp2_with (fail);refine (Aa HT wa (Aa q7)).mono ?_
 rintro e w2 ⟨rfl,hb⟩;obtain⟨w3,q5⟩:∃w3,w3=w2.alloc (.cells #[.slice qa ql qc,.pointer (some ⟨b,0,none⟩),.string ⟨key.toArray⟩,.int .i64 i] 185):=⟨_,rfl⟩
 have hM:=FP.mk' (qa:=qa) (ql:=ql) (qc:=qc) (b:=b) (key:=key) (i:=i) (Aa q7) (Aa q0) hb q5;have HM:=Ab hM;have q6:=Ab q5;have c1:=hM.op.c1;have c2:=hM.op.c2;have k1:∀o,(w2.alloc o).cell? ⟨w.heap.size,1,none⟩=some (.slice pa pl pc):=fun o=>(A5 (w:=w2) (A6 w2 o _ ((Aa q0).low hb).lt)).trans ((Aa q0).low hb).c1;have k2:∀o,(w2.alloc o).cell? ⟨w.heap.size,2,none⟩=some (.slice fa fl fc):=fun o=>(A5 (w:=w2) (A6 w2 o _ ((Aa q0).low hb).lt)).trans ((Aa q0).low hb).c2;clear hb b2 hM q5
 go_wp2_with (fail);rw[<- Aa q6]
 clear q6 k1 k2;refine (Aa HE w3 (Aa HM).bel).mono ?_;rintro e w4 ⟨rfl,hb⟩;have q4:=(Aa HM).low hb;have q8:=Ab q4;clear hb c1 c2;have c1:=q4.op.c1;have c2:=q4.op.c2;clear q4
 go_wp2_with (fail);refine (Aa HL w4 (Aa q8).bel).mono ?_
 rintro e w5 ⟨rfl,hb⟩;have qb:=Ab ((Aa q8).low hb);clear hb c1 c2
 go_wp2_with (fail)
 go_ret;exact⟨rfl,(Aa qb).bel⟩
theorem Qn{Q1:A3->Prop}{Q:Nat->A3->Prop}{x:Option Addr}(hT:∀w1,AS w.heap.size w w1->AT AI 198 #[.pointer (some ⟨D,0,none⟩),.slice fa fl fc] w1 fun e w'=>e=.returned (.tuple #[plV (.slice qa ql qc) b key i,.int .i64 0])/\AS w1.heap.size w1 w')(hE:∀w1,AS w.heap.size w w1->AT AI 202 #[.slice fa fl fc,.slice pa pl pc] w1 fun e w'=>e=.returned (.bool false)/\AS w1.heap.size w1 w')(hL:∀w1,AS w.heap.size w w1->AT AI 203 #[.slice pa pl pc,.slice fa fl fc] w1 fun e w'=>e=.returned (.bool false)/\AS w1.heap.size w1 w')(hG:∀w1,AS w.heap.size w w1->AT AI 159 #[plV (.slice qa ql qc) b key i] w1 fun e w'=>e=.returned (.pointer x)/\AS w1.heap.size w1 w')(hR:∀w1,AS w.heap.size w w1->OpB w1 w.heap.size k pa pl pc fa fl fc y->AT AI 199 #[.pointer (some ⟨D,0,none⟩),plV (.slice qa ql qc) b key i] w1 fun e w'=>e=.returned (.tuple #[])/\OpB w' w.heap.size k pa pl pc fa fl fc y/\Hid (Q1 w'))(hA:∀w1,Q1 w1->AT AI 197 #[.pointer (some ⟨D,0,none⟩),.slice pa pl pc,.pointer x] w1 fun e w'=>∃c:Nat,e=.returned (.int .i64 c)/\Hid (Q c w')):
  AT AI 154 #[.pointer (some ⟨D,0,none⟩),opV k pa pl pc fa fl fc y] w fun e w'=>∃c:Nat,e=.returned (.int .i64 c)/\Q c w':=by
 have HT:=Ab hT;have HE:=Ab hE;have HL:=Ab hL;have HG:=Ab hG;have HR:=Ab hR;have HA:=Ab hA;have hob:OpB (w.alloc (.cells #[.int .i64 k,.slice pa pl pc,.slice fa fl fc,.pointer y] 178)) w.heap.size k pa pl pc fa fl fc y:=A2 w _;have qg:=(A4 w.heap.size w).alloc (A1 _) (.cells #[.int .i64 k,.slice pa pl pc,.slice fa fl fc,.pointer y] 178);have q9:=Ab qg;have q5:=Ab hob;have b2:=hob.c2;clear hT hE hL hG hR hA hob qg
 go_enter func154,ntmps154
 go_wp2_with (fail);generalize w.alloc (.cells #[.int .i64 k,.slice pa pl pc,.slice fa fl fc,.pointer y] 178)=wa at *
 go_wp2_with (fail);refine (Aa HT wa (Aa q9)).mono ?_
 rintro e w2 ⟨rfl,hb⟩;obtain⟨w3,q7⟩:∃w3,w3=w2.alloc (.cells #[.slice qa ql qc,.pointer (some ⟨b,0,none⟩),.string ⟨key.toArray⟩,.int .i64 i] 185):=⟨_,rfl⟩
 have hM:=FP.mk' (qa:=qa) (ql:=ql) (qc:=qc) (b:=b) (key:=key) (i:=i) (Aa q9) (Aa q5) hb q7;have HM:=Ab hM;have q8:=Ab q7;have c1:=hM.op.c1;have c2:=hM.op.c2;have k1:∀o,(w2.alloc o).cell? ⟨w.heap.size,1,none⟩=some (.slice pa pl pc):=fun o=>(A5 (w:=w2) (A6 w2 o _ ((Aa q5).low hb).lt)).trans ((Aa q5).low hb).c1;have k2:∀o,(w2.alloc o).cell? ⟨w.heap.size,2,none⟩=some (.slice fa fl fc):=fun o=>(A5 (w:=w2) (A6 w2 o _ ((Aa q5).low hb).lt)).trans ((Aa q5).low hb).c2;clear hb b2 hM q7
 go_wp2_with (fail);rw[<- Aa q8]
 clear q8 k1 k2;refine (Aa HE w3 (Aa HM).bel).mono ?_;rintro e w4 ⟨rfl,hb⟩;have q6:=(Aa HM).low hb;have qb:=Ab q6;clear hb c1 c2;have c1:=q6.op.c1;have c2:=q6.op.c2;clear q6
 go_wp2_with (fail);refine (Aa HL w4 (Aa qb).bel).mono ?_
 rintro e w5 ⟨rfl,hb⟩;have q4:=(Aa qb).low hb;have qd:=Ab q4;clear hb c1 c2;have e0:=q4.pb.c0;have e1:=q4.pb.c1;have e2:=q4.pb.c2;have e3:=q4.pb.c3;clear q4
 go_wp2_with (fail);refine (Aa HG w5 (Aa qd).bel).mono ?_
 rintro e w6 ⟨rfl,hb⟩;have q0:=(Aa qd).low hb;have qe:=Ab q0;clear hb e0 e1 e2 e3;have e0:=q0.pb.c0;have e1:=q0.pb.c1;have e2:=q0.pb.c2;have e3:=q0.pb.c3;clear q0
 go_wp2_with (fail);refine (Aa HR w6 (Aa qe).bel (Aa qe).op).mono ?_
 rintro e w7 ⟨rfl,qf,hq⟩;have c1:=qf.c1;clear qf e0 e1 e2 e3
 go_wp2_with (fail);refine (Aa HA w7 (Aa hq)).mono ?_
 rintro e w8 ⟨c,rfl,qh⟩
 go_wp2_with (fail)
 go_ret;exact⟨c,rfl,Aa qh⟩
theorem Qo(hc:c≠0)(hW:∀w1,AS w.heap.size w w1->AT AI 56 #[.pointer (some ⟨D,0,none⟩)] w1 fun x w'=>x=.returned (.pointer wp)/\AS w1.heap.size w1 w')(hF:∀w1,AS w.heap.size w w1->AT AI 81 #[.slice fa fl fc,.pointer wp] w1 fun e w'=>e=.returned (.tuple #[.pointer none,.int .i64 c])/\AS w1.heap.size w1 w'):
  AT AI 155 #[.pointer (some ⟨D,0,none⟩),opV k pa pl pc fa fl fc y] w fun e w'=>e=.returned (.int .i64 c)/\AS w.heap.size w w':=by
 have HW:=Ab hW;have HF:=Ab hF;have hob:OpB (w.alloc (.cells #[.int .i64 k,.slice pa pl pc,.slice fa fl fc,.pointer y] 178)) w.heap.size k pa pl pc fa fl fc y:=A2 w _;have q5:=(A4 w.heap.size w).alloc (A1 _) (.cells #[.int .i64 k,.slice pa pl pc,.slice fa fl fc,.pointer y] 178);have q8:=hob.lt;have q0:=Ab q5;have q6:=Ab hob;have hs:=q5.size;have e2:((c:Int) != 0)=true:=by rw[bne_iff_ne];omega
 have e3:((c:Int)==0)=false:=by rw[beq_eq_false_iff_ne];omega
 have b2:=hob.c2;clear hW hF hob q5 hc
 go_enter func155,ntmps155
 go_wp2_with (fail);generalize w.alloc (.cells #[.int .i64 k,.slice pa pl pc,.slice fa fl fc,.pointer y] 178)=wa at *
 go_region_with (first
  | (go_at_call 56;refine (Aa HW _ ?_).mono ?_;exact⟨(Aa q0).os,(Aa q0).tape,(Aa q0).output,(Aa q0).size,(Aa q0).block⟩;rintro x w2 ⟨rfl,hb2⟩;replace hb2:AS wa.heap.size wa w2:=⟨hb2.os,hb2.tape,hb2.output,hb2.size,hb2.block⟩;have d2:=((Aa q6).low hb2).c2;have q4:=Ab hb2;clear hb2)
  | (go_at_call 81;refine (Aa HF _ ?_).mono ?_;exact (Aa q0).trans (((Aa q4).mono (Aa q0).size).trans ⟨rfl,rfl,rfl,A1 _,fun _ _=>rfl⟩);rintro e w3 ⟨rfl,hb3⟩;replace hb3:AS w2.heap.size w2 w3:=⟨hb3.os,hb3.tape,hb3.output,hb3.size,hb3.block⟩;have q7:=Ab hb3;clear hb3))
 all_goals (
  go_wp2_with (fail)
  go_ret;exact⟨rfl,(Aa q0).trans (((Aa q4).trans ((Aa q7).mono (Aa q4).size)).mono (Aa q0).size)⟩)
theorem SE{Q:Nat->A3->Prop}{x:Option Addr}(hW:∀w1,AS w.heap.size w w1->AT AI 56 #[.pointer (some ⟨D,0,none⟩)] w1 fun x w'=>x=.returned (.pointer wp)/\AS w1.heap.size w1 w')(hF:∀w1,AS w.heap.size w w1->AT AI 81 #[.slice fa fl fc,.pointer wp] w1 fun e w'=>e=.returned (.tuple #[.pointer x,.int .i64 0])/\AS w1.heap.size w1 w')(hA:∀w1,AS w.heap.size w w1->AT AI 197 #[.pointer (some ⟨D,0,none⟩),.slice pa pl pc,.pointer x] w1 fun e w'=>∃c:Nat,e=.returned (.int .i64 c)/\Hid (Q c w')):
  AT AI 155 #[.pointer (some ⟨D,0,none⟩),opV k pa pl pc fa fl fc y] w fun e w'=>∃c:Nat,e=.returned (.int .i64 c)/\Q c w':=by
 have HW:=Ab hW;have HF:=Ab hF;have HA:=Ab hA;have hob:OpB (w.alloc (.cells #[.int .i64 k,.slice pa pl pc,.slice fa fl fc,.pointer y] 178)) w.heap.size k pa pl pc fa fl fc y:=A2 w _;have q7:=(A4 w.heap.size w).alloc (A1 _) (.cells #[.int .i64 k,.slice pa pl pc,.slice fa fl fc,.pointer y] 178);have qd:=hob.lt;have q0:=Ab q7;have q8:=Ab hob;have hs:=q7.size;have b2:=hob.c2;clear hW hF hA hob q7
 go_enter func155,ntmps155
 go_wp2_with (fail);generalize w.alloc (.cells #[.int .i64 k,.slice pa pl pc,.slice fa fl fc,.pointer y] 178)=wa at *
 go_region_with (first
  | (go_at_call 56;refine (Aa HW _ ?_).mono ?_;exact⟨(Aa q0).os,(Aa q0).tape,(Aa q0).output,(Aa q0).size,(Aa q0).block⟩;rintro x w2 ⟨rfl,hb2⟩;replace hb2:AS wa.heap.size wa w2:=⟨hb2.os,hb2.tape,hb2.output,hb2.size,hb2.block⟩;have d2:=((Aa q8).low hb2).c2;have q6:=Ab hb2;clear hb2)
  | (go_at_call 81;refine (Aa HF _ ?_).mono ?_;exact (Aa q0).trans (((Aa q6).mono (Aa q0).size).trans ⟨rfl,rfl,rfl,A1 _,fun _ _=>rfl⟩);rintro e w3 ⟨rfl,hb3⟩;replace hb3:AS w2.heap.size w2 w3:=⟨hb3.os,hb3.tape,hb3.output,hb3.size,hb3.block⟩;have q9:=Ab hb3;clear hb3))
 all_goals (
  have q4:=((Aa q8).low (Aa q6)).low (Aa q9);have c1:=q4.c1;have q5:=Ab ((Aa q0).trans (((Aa q6).trans ((Aa q9).mono (Aa q6).size)).mono (Aa q0).size));clear q4
  try clear d2
  clear b2
  go_wp2_with (fail);refine (Aa HA _ ?_).mono ?_
  ·exact⟨(Aa q5).os,(Aa q5).tape,(Aa q5).output,(Aa q5).size,(Aa q5).block⟩
  ·rintro e w8 ⟨c,rfl,qb⟩
   go_wp2_with (fail)
   go_ret;exact⟨c,rfl,Aa qb⟩)
theorem Qj(hc:c≠0)(hW:∀w1,AS w.heap.size w w1->AT AI 56 #[.pointer (some ⟨D,0,none⟩)] w1 fun x w'=>x=.returned (.pointer wp)/\AS w1.heap.size w1 w')(hF:∀w1,AS w.heap.size w w1->AT AI 81 #[.slice pa pl pc,.pointer wp] w1 fun e w'=>e=.returned (.tuple #[.pointer none,.int .i64 c])/\AS w1.heap.size w1 w'):
  AT AI 156 #[.pointer (some ⟨D,0,none⟩),opV k pa pl pc fa fl fc y] w fun e w'=>e=.returned (.int .i64 c)/\AS w.heap.size w w':=by
 have HW:=Ab hW;have HF:=Ab hF;have hob:OpB (w.alloc (.cells #[.int .i64 k,.slice pa pl pc,.slice fa fl fc,.pointer y] 178)) w.heap.size k pa pl pc fa fl fc y:=A2 w _;have q5:=(A4 w.heap.size w).alloc (A1 _) (.cells #[.int .i64 k,.slice pa pl pc,.slice fa fl fc,.pointer y] 178);have q8:=hob.lt;have q0:=Ab q5;have q6:=Ab hob;have hs:=q5.size;have e2:((c:Int) != 0)=true:=by rw[bne_iff_ne];omega
 have e3:((c:Int)==0)=false:=by rw[beq_eq_false_iff_ne];omega
 have b1:=hob.c1;clear hW hF hob q5 hc
 go_enter func156,ntmps156
 go_wp2_with (fail);generalize w.alloc (.cells #[.int .i64 k,.slice pa pl pc,.slice fa fl fc,.pointer y] 178)=wa at *
 go_region_with (first
  | (go_at_call 56;refine (Aa HW _ ?_).mono ?_;exact⟨(Aa q0).os,(Aa q0).tape,(Aa q0).output,(Aa q0).size,(Aa q0).block⟩;rintro x w2 ⟨rfl,hb2⟩;replace hb2:AS wa.heap.size wa w2:=⟨hb2.os,hb2.tape,hb2.output,hb2.size,hb2.block⟩;have d1:=((Aa q6).low hb2).c1;have q4:=Ab hb2;clear hb2)
  | (go_at_call 81;refine (Aa HF _ ?_).mono ?_;exact (Aa q0).trans (((Aa q4).mono (Aa q0).size).trans ⟨rfl,rfl,rfl,A1 _,fun _ _=>rfl⟩);rintro e w3 ⟨rfl,hb3⟩;replace hb3:AS w2.heap.size w2 w3:=⟨hb3.os,hb3.tape,hb3.output,hb3.size,hb3.block⟩;have q7:=Ab hb3;clear hb3))
 all_goals (
  go_wp2_with (fail)
  go_ret;exact⟨rfl,(Aa q0).trans (((Aa q4).trans ((Aa q7).mono (Aa q4).size)).mono (Aa q0).size)⟩)
theorem SD{x:Option Addr}{bo:Bool}(hW:∀w1,AS w.heap.size w w1->AT AI 56 #[.pointer (some ⟨D,0,none⟩)] w1 fun x w'=>x=.returned (.pointer wp)/\AS w1.heap.size w1 w')(hF:∀w1,AS w.heap.size w w1->AT AI 81 #[.slice pa pl pc,.pointer wp] w1 fun e w'=>e=.returned (.tuple #[.pointer x,.int .i64 0])/\AS w1.heap.size w1 w')(hS:∀w1,AS w.heap.size w w1->AT AI 82 #[.pointer x,.pointer y] w1 fun e w'=>e=.returned (.bool bo)/\AS w1.heap.size w1 w'):
  AT AI 156 #[.pointer (some ⟨D,0,none⟩),opV k pa pl pc fa fl fc y] w fun e w'=>e=.returned (.int .i64 (if bo=true then 0 else 14))/\AS w.heap.size w w':=by
 have HW:=Ab hW;have HF:=Ab hF;have HS:=Ab hS;have hob:OpB (w.alloc (.cells #[.int .i64 k,.slice pa pl pc,.slice fa fl fc,.pointer y] 178)) w.heap.size k pa pl pc fa fl fc y:=A2 w _;have q8:=(A4 w.heap.size w).alloc (A1 _) (.cells #[.int .i64 k,.slice pa pl pc,.slice fa fl fc,.pointer y] 178);have qe:=hob.lt;have q0:=Ab q8;have q9:=Ab hob;have hs:=q8.size;have b1:=hob.c1;clear hW hF hS hob q8
 go_enter func156,ntmps156
 go_wp2_with (fail);generalize w.alloc (.cells #[.int .i64 k,.slice pa pl pc,.slice fa fl fc,.pointer y] 178)=wa at *
 go_region_with (first
  | (go_at_call 56;refine (Aa HW _ ?_).mono ?_;exact⟨(Aa q0).os,(Aa q0).tape,(Aa q0).output,(Aa q0).size,(Aa q0).block⟩;rintro x w2 ⟨rfl,hb2⟩;replace hb2:AS wa.heap.size wa w2:=⟨hb2.os,hb2.tape,hb2.output,hb2.size,hb2.block⟩;have d1:=((Aa q9).low hb2).c1;have q7:=Ab hb2;clear hb2)
  | (go_at_call 81;refine (Aa HF _ ?_).mono ?_;exact (Aa q0).trans (((Aa q7).mono (Aa q0).size).trans ⟨rfl,rfl,rfl,A1 _,fun _ _=>rfl⟩);rintro e w3 ⟨rfl,hb3⟩;replace hb3:AS w2.heap.size w2 w3:=⟨hb3.os,hb3.tape,hb3.output,hb3.size,hb3.block⟩;have qb:=Ab hb3;clear hb3))
 all_goals (
  have q6:=((Aa q9).low (Aa q7)).low (Aa qb);have c3:=q6.c3;have q4:=Ab ((Aa q0).trans (((Aa q7).trans ((Aa qb).mono (Aa q7).size)).mono (Aa q0).size));clear q6
  try clear d1
  clear b1
  go_wp2_with (fail);refine (Aa HS _ ?_).mono ?_
  ·exact⟨(Aa q4).os,(Aa q4).tape,(Aa q4).output,(Aa q4).size,(Aa q4).block⟩
  ·rintro e w8 ⟨rfl,q5⟩;have qd:=Ab ((Aa q4).trans ((show AS w3.heap.size w3 w8 from⟨q5.os,q5.tape,q5.output,q5.size,q5.block⟩).mono (Aa q4).size));clear q5;cases bo;all_goals (
    go_wp2_with (fail)
    go_ret;exact⟨rfl,Aa qd⟩))
end
end Go.Proofs.YtdpomdelmdofmaaGreatDoor
