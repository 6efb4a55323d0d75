import Derived.Test.YtdpomdelmdofmaaGreatDoorPfx39
open Go.Lit renaming string->AI
open List renaming length_cons->AS,length_append->A1,getElem?_eq_some_iff->A3,getElem?_eq_getElem->A4,length_map->A5,length_nil->A6,mem_cons_self->Bs,map_cons->BY,mem_map->CH,length_filter_le->CL,mem_cons_of_mem->CR,mem_iff_getElem->C1,mem_of_mem_take->C2,mem_of_getElem?->Dt,sum_cons->DD,map_map->D2,filter_cons->Ft,append_nil->F5
open Nat renaming le_refl->AT,le_trans->A2,le_add_right->F1,le_max_right->F2,le_add_left->G0
open Go.DataW renaming insert->CD,agg->HA
open Go renaming World->D0,DataW->G1,Value->G3
open Or renaming inl->D1,inr->G2
open Function renaming comp_def->D3
open Go.Proofs.Tryz renaming prog->E0
set_option maxRecDepth 100000
set_option maxHeartbeats 2000000
namespace Go.Proofs.YtdpomdelmdofmaaGreatDoor
open Go.Proofs.Tryz Go.RowKit Go.Maps
variable{t:Nat}{k:By}{es:List (Lit×To)}
def Ah(f:Nat)(l:List (Lit×To)):Nat:=(l.map fun p=>(Ag (strOf p.1)).length+2+Zh f p.2).sum
theorem Da(f:Nat):∀l:List (Lit×To),l.length<=Ah f l
 | []=>AT _
 | p::l=>by
  have h:=Da f l;unfold Ah at h |-;rw[BY,DD,AS];omega
theorem ND{f:Nat}{l:List (Lit×To)}{q:To}(h:l[t]? = some (.string k,q)):Ah f (l.take t)+((Ag k).length+2+Zh f q)<=Ah f l:=by
 obtain⟨ht,e⟩:=A3.1 h;have h1:l=l.take t++(.string k,q)::l.drop (t+1):=by rw[<- e,List.getElem_cons_drop,List.take_append_drop]
 unfold Ah;conv=>rhs;rw[h1]
 rw[List.map_append,List.sum_append,BY,DD];show _+((Ag k).length+2+Zh f q)<=_+((Ag k).length+2+Zh f q+_)
 omega
theorem JU{α:Type}(x:Lit×G1 α):∀l:List (Lit×G1 α),(CD x l).length=l.length+1
 | []=>rfl
 | a::l=>by
  unfold CD;split
  ·rfl
  ·rw[AS,JU x l];rfl
theorem MP{α:Type}(k:Lit)(c:G1 α)(es:List (Lit×G1 α)):(Zr k c es).length<=es.length+1:=by
 unfold Zr;rw[JU];have:=CL (fun p:Lit×G1 α=>!p.1.sameKey k) es;omega
theorem RC(m:Option To->List By->To->To×List Zk)(s:List By)(q:Lit×To)(es:List (Lit×To)):(Be m s q es).1.length<=es.length+1:=by
 unfold Be;split
 ·split
  ·exact Nat.le_succ _
  ·exact Nat.le_succ_of_le (CL _ _)
 ·exact MP _ _ _
theorem MV(m:Option To->List By->To->To×List Zk)(s:List By):∀l es:List (Lit×To),(A8 m s l es).1.length<=es.length+l.length
 | [],es=>AT _
 | q::l,es=>by
  have h1:=RC m s q es;have h2:=MV m s l (Be m s q es).1;show (A8 m s l (Be m s q es).1).1.length<=_;rw[AS];omega
theorem RB{m:Option To->List By->To->To×List Zk}{s:List By}{j:By}{x c:To}(h:(AI k,c)∈(Be m s (.string j,x) es).1)(q0:j≠k):(AI k,c)∈es:=by
 unfold Be at h;split at h
 ·split at h
  ·exact h
  ·exact (List.mem_filter.1 h).1
 ·rcases DL.1 h with h|h
  ·injection h with h _;injection h with h;exact absurd h.symm q0
  ·exact h.1
theorem MU{m:Option To->List By->To->To×List Zk}{s:List By}{k:By}{c:To}:∀ {l es:List (Lit×To)},(AI k,c)∈(A8 m s l es).1->(∀q∈l,∃j,q.1=AI j/\j≠k)->(AI k,c)∈es
 | [],es,h,_=>h
 | (y,x)::l,es,h,hl=>by
  obtain⟨j,e,hj⟩:=hl _ Bs;simp only at e;subst e;exact RB (MU (l:=l) h fun q hq=>hl q (CR _ hq)) hj
theorem O8(hk:∀p∈es,∃s,p.1=.string s)(h:t<(ZJ es).length):∃q,es[t]? = some (.string (ZJ es)[t],q):=by
 have hl:t<es.length:=by unfold ZJ at h;rwa [A5] at h
 obtain⟨s,e⟩:=hk es[t] (List.getElem_mem _);have hg:(ZJ es)[t]? = some s:=by
  unfold ZJ;rw[List.getElem?_map,A4 hl];show some (match es[t].1 with | .string b=>b|_=>[])=some s;rw[e]
 have hs:(ZJ es)[t]=s:=by
  rw[A4 h] at hg;injection hg
 refine⟨es[t].2,?_⟩;rw[A4 hl,hs,<- e]
theorem VI{q:To}(hs:AL es)(h:es[t]? = some (.string k,q)):∀p∈es.take t,∃j,p.1=AI j/\j≠k:=by
 intro p hp;obtain⟨ht,e⟩:=A3.1 h;obtain⟨i,hi,ei⟩:=C1.1 hp;obtain⟨j,ej⟩:=hs.2 p (C2 hp);refine⟨j,ej,fun e2=>?_⟩;have hit:i<t:=by rw[List.length_take] at hi;omega
 have hb:=List.pairwise_iff_getElem.1 hs.1 i t (by omega) ht hit;rw[List.getElem_take] at ei;rw[ei,e,ej,e2] at hb;simp only at hb;rw[D9] at hb;cases hb
theorem Rc{α β:Type}{es:List (Lit×G1 α)}(q:G1 α->G1 β)(h:AL (es.map fun p=>(p.1,q p.2))):AL es:=by
 refine⟨(List.pairwise_map.1 h.1),fun p hp=>?_⟩;exact h.2 (p.1,q p.2) (CH.2 ⟨p,hp,rfl⟩)
theorem WE{f b g:Nat}{n:Zf}{es:List (Lit×Zf)}(h:er (f+1) n=er (f+1) (Zj b g (.map es))):∃es',n=Zj b g (.map es')/\es'.map (fun p=>(p.1,Zi f p.2))=es.map (fun p=>(p.1,Zi f p.2)):=by
 rw[cJ] at h;rcases cK n with⟨k,b',l,g',al,y,rfl⟩|⟨k,b',l,g',es',rfl⟩|⟨h1,_,_⟩
 ·exact nomatch h
 ·have h':HA [.lit (.int k b'),.lit (.int l g'),.map (es'.map fun p=>(p.1,er f p.2))]=HA [.lit (.int .i64 b),.lit (.int .i64 g),.map (es.map fun p=>(p.1,er f p.2))]:=h;injection h' with h';injection h' with a1 h';injection h' with a2 h';injection h' with a3 _;injection a1 with a1;injection a1 with a1 a1';injection a2 with a2;injection a2 with a2 a2';injection a3 with a3;subst a1 a1' a2 a2';refine⟨es',rfl,?_⟩;have e:=congrArg (List.map fun p:Lit×Zf=>(p.1,Zi f p.2)) a3;rw[D2,D2] at e;simpa only[D3,ED] using e
 ·rw[h1] at h;subst h;refine⟨_,rfl,?_⟩;rw[D2];simp only[D3,ED]
def L7(L D:Nat)(rv iv:G3)(ch:Bool)(Tb:Zf)(Mb:Nat->Prop)(wb:D0)(T:Zf)(M:Nat->Prop)(js:List Zk)(p:List Nat)(b g f:Nat)(path:List By)(ev ps:List (Lit×To))(w w3:D0)(t:Nat)(wr:D0):Prop:=
 ∃jn Tt Mt ct,Bm L wr D rv jn iv ch Tb Mb wb Tt Mt (js++(A8 (Zp f) path (ps.take t) ev).2)/\Zo p Tt=some (Zj b g (.map ct))/\ct.map (fun p=>(p.1,Zi f p.2))=(A8 (Zp f) path (ps.take t) ev).1 /\
  er L Tt=er L (Zs p (Zj b g (.map ct)) T)/\JEx (fun k=>M k\/(w.heap.size<=k/\k<w3.heap.size)) Mt w3 wr
section
variable{d x:Int}{f:Nat}
theorem Wm{L:Nat}{p:List Nat}{D b g vb:Nat}{rv iv:G3}{ch:Bool}{Tb T m0:Zf}{Mb M F:Nat->Prop}{wb w w3 wr w1:D0}{js:List Zk}{path:List By}{ev ps:List (Lit×To)}{lv:Int}{q:To}{xa:Option Addr}{xl xc:Nat}(ih:Iv d x f)(hL:f+1+p.length=L)(qz:L<=top+1)(h0:Zo p T=some m0)(hq:ps[t]? = some (.string k,q))(hlv:1<=lv)(he:ZM d x f lv ev)(hp:ZM d x f lv ps)(zo:2+Ah f ev<=1000000)(hpc:2+Ah f ps<=1000000)(zq:js.length+(2+Ah f ps)<=1000000000)(zj:path.length+1<=p.length)(hF:∀k,F k->M k)(z1:L7 L D rv iv ch Tb Mb wb T M js p b g f path ev ps w w3 t wr)(hb1:Below wr.heap.size wr w1)(htk:Au w1 (fun j=>wr.heap.size<=j) (.slice xa xl xc) (path++[k]))(hr:Rep f F wr (.pointer (some ⟨vb,0,none⟩)) q):
  Calls E0 162 #[.pointer (some ⟨D,0,none⟩),plV (.slice xa xl xc) b k 0,.pointer (some ⟨vb,0,none⟩)] w1 fun e w'=>e=.returned (.tuple #[])/\L7 L D rv iv ch Tb Mb wb T M js p b g f path ev ps w w3 (t+1) w':=by
 subst hL;obtain⟨jn,Tt,Mt,ct,hJ,hs,hv,za,hX⟩:=z1;obtain⟨q7,qq⟩:=hJ.grow hb1 (fun j=>wr.heap.size<=j/\j<w1.heap.size) (fun _ h=>h);obtain⟨M1,qh⟩:∃M1,M1=fun j=>Mt j\/(wr.heap.size<=j/\j<w1.heap.size):=⟨_,rfl⟩
 rw[<- qh] at q7 qq;have qd:Au w1 (GA (f+1+p.length) Tb wb M1) (.slice xa xl xc) (path++[k]):=htk.move fun j hj hl=>⟨rfl,by rw[qh];exact G2 ⟨hj,hl⟩,D1 (A2 hJ.up.1 hj)⟩
 have qy:∀j,F j->M1 j:=fun j hj=>by rw[qh];exact D1 (hX.kept j (D1 (hF j hj))).1
 have ze:=VI hp.skey hq;have qg:=Ip (JG f) hlv (B:=1000000) path (ps.take t) ev he ⟨hp.1.sublist (List.take_sublist _ _),fun r hr=>hp.2 r (C2 hr)⟩ (fun r _ c hc=>by
  have:=EC (f:=f) hc;simp only at this;have h2:Zh (f+1) (.map ev)=2+Ah f ev:=CA f ev;omega)
 have qp:AL ct:=Rc (Zi f) (hv▸qg.1.skey);have qt:=ND (f:=f) hq;have zb:ct.length<=ev.length+t:=by
  have h1:=MV (Zp f) path (ps.take t) ev;rw[<- hv,A5] at h1;have:=List.length_take_le t ps;omega
 have zr:t<ps.length:=(A3.1 hq).1;have z8:=Da f ev;have zi:=Da f ps;have qk:k.length<=1048576:=by have:=E5 k;omega
 have qv:B4 (Zj b g (.map ct)) k:=⟨by rw[Bx,A5];omega,qk⟩
 have qj:(js++(A8 (Zp f) path (ps.take t) ev).2).length+Zh f q<=1000000000:=by
  have h1:=qg.2.2;have h2:((ps.take t).map fun p=>(Ag (strOf p.1)).length+2+Zh f p.2).sum=Ah f (ps.take t):=rfl;rw[A1];omega
 have zl:=Dt hq;obtain⟨_,zk⟩:=hp.2 _ zl;have zm:Zh f q<=1000000:=by omega
 have qu:=hr.bel hb1;obtain⟨b',pk,pn,zs,psl,pmv,eb,qm,qf,_⟩:=C3 qu;injection eb with eb;injection eb with eb;injection eb with eb;subst eb;have qb:∀ {ct1:List (Lit×Zf)} {j:List Zk} {w':D0},ct1.map (fun p=>(p.1,Zi f p.2))=(Be (Zp f) path (.string k,q) (A8 (Zp f) path (ps.take t) ev).1).1->j=(Be (Zp f) path (.string k,q) (A8 (Zp f) path (ps.take t) ev).1).2 ->
   BM (f+1+p.length) D rv iv ch Tb Mb wb (Zs p (Zj b g (.map ct1)) Tt) M1 (js++(A8 (Zp f) path (ps.take t) ev).2++j) w1 w'->L7 (f+1+p.length) D rv iv ch Tb Mb wb T M js p b g f path ev ps w w3 (t+1) w':=by
  rintro ct1 j w' h1 rfl ⟨zn,T2,M2,e2,q8,q9⟩;obtain⟨⟨n2,zc,qo⟩,qi⟩:=WF (f:=f+1) h0 za (fun n1 _=>e2);obtain⟨qx,rfl,z7⟩:=WE qo;have q6:ps.take (t+1)=ps.take t++[(.string k,q)]:=by rw[List.take_add_one,hq];rfl
  refine⟨zn,T2,M2,qx,?_,zc,?_,qi _ qo,(hX.trans qq).trans q9⟩
  ·rw[q6,Ht,<- List.append_assoc];exact q8
  ·rw[q6,Ht,z7,h1]
 obtain⟨u,hu⟩:=Ad.at (f:=f+1) q7.tr hs;have qr:(plW w1 xa xl xc b k 0).heap.size=w1.heap.size+1:=by simp
 have qe:∀c,(AI k,c)∈ct->As (A8 (Zp f) path (ps.take t) ev).1 (.string k)=some (Zi f c):=fun c hc=>DW qg.1.skey (by rw[<- hv];exact CH.2 ⟨_,hc,rfl⟩);have q4:(∀r∈ct,r.1≠AI k)->As (A8 (Zp f) path (ps.take t) ev).1 (.string k)=none:=fun h=>Gg fun r hr=>by
  rw[<- hv] at hr;obtain⟨r',h1,rfl⟩:=CH.1 hr;exact h r' h1
 cases hn:ZZ q with
 | true=>
  rw[hn] at qf;rcases Ej ct k with⟨c,hc⟩|hno
  ·have qn:AR (Zj b g (.map ct)) 0 k c:=G2 ⟨b,g,ct,rfl,hc,qp⟩;obtain⟨_,_,_,a4⟩:=qn.apart (Bz (f:=f+1) hs q7.nd);obtain⟨yv,qw⟩:=hu.kidAt a4;obtain⟨yb,rfl,_⟩:=qw.ptr;have q5:Be (Zp f) path (.string k,q) (A8 (Zp f) path (ps.take t) ev).1=(ZF (.string k) (A8 (Zp f) path (ps.take t) ev).1,[(0,path++[k],Zi f c)]):=by
    unfold Be;simp only;rw[if_pos hn,qe c hc];rfl
   refine LN (y:=⟨yb,0,none⟩) qm qf ((DN (i:=0) (key:=k) (hu.bel CK) qn qk).mono ?_) (fun w2 hb2=>?_)
   ·rintro e w' ⟨⟨y,rfl,hy⟩,hb2⟩;obtain rfl:=hy.uniq qw;exact⟨rfl,qr▸hb2⟩
   ·obtain⟨q8,q9⟩:=q7.bel hb2;refine (Jt q8 hs qn qv (by omega) (qd.move fun j hj hl=>⟨hb2.block j hl,hj⟩) (by omega)).mono ?_;rintro e w' ⟨rfl,q0,_⟩;refine⟨rfl,qb (ct1:=ZF (.string k) ct) ?_ ?_ (q0.low q9)⟩
    ·rw[q5,Ew,hv]
    ·rw[q5]
  ·have q5:Be (Zp f) path (.string k,q) (A8 (Zp f) path (ps.take t) ev).1=((A8 (Zp f) path (ps.take t) ev).1,[]):=by
    unfold Be;simp only;rw[if_pos hn,q4 hno]
   refine (Oe (pa:=xa) (pl:=xl) (pc:=xc) qm qf ((I9 (i:=0) (key:=k) (hu.bel CK) hno qk).mono ?_)).mono ?_
   ·rintro e w' ⟨rfl,hb2⟩;exact⟨rfl,qr▸hb2⟩
   ·rintro e w' ⟨rfl,hb2⟩;obtain⟨q8,q9⟩:=q7.bel hb2;refine⟨rfl,qb (ct1:=ct) (j:=[]) (by rw[q5,hv]) (by rw[q5]) ⟨jn,Tt,M1,?_,by rw[F5];exact q8,q9⟩⟩;rw[q7.tr.put_self (f:=f+1) hs]
 | false=>
  rw[hn] at qf;refine MR qm qf fun w2 hb2=>?_;obtain⟨q8,q9⟩:=q7.bel hb2;obtain⟨o,zf,zg,zh⟩:∃o:Option Zf,At0 (Zj b g (.map ct)) 0 k o/\As (A8 (Zp f) path (ps.take t) ev).1 (.string k)=o.map (Zi f) /\ ∀c,o=some c->(AI k,c)∈ct:=by
   rcases Ej ct k with⟨c,hc⟩|hno
   ·exact⟨some c,G2 ⟨b,g,ct,rfl,hc,qp⟩,qe c hc,fun c' h=>by injection h with h;exact h▸hc⟩
   ·exact⟨none,⟨b,g,ct,rfl,hno⟩,q4 hno,fun c' h=>by cases h⟩
  have q5:Be (Zp f) path (.string k,q) (A8 (Zp f) path (ps.take t) ev).1=(Zr (.string k) (Zp f (o.map (Zi f)) (path++[k]) q).1 (A8 (Zp f) path (ps.take t) ev).1,(Zp f (o.map (Zi f)) (path++[k]) q).2):=by
   unfold Be;simp only;rw[if_neg (by rw[hn];decide),zg];rfl
  refine (ih (i:=0) (lv:=lv+1) rfl qz q8 hs zf qv qj (qd.move fun j hj hl=>⟨hb2.block j hl,hj⟩) (by rw[A1];exact zj) (fun h=>by simp at h) (qu.bel hb2) qy (by omega) zk zm ?_).mono ?_
  ·intro c hc;have h1:(AI k,Zi f c)∈(A8 (Zp f) path (ps.take t) ev).1:=by rw[<- hv];exact CH.2 ⟨_,zh c hc,rfl⟩
   refine⟨(qg.1.2 _ h1).2,?_⟩;have h2:=EC (f:=f) (MU h1 ze);have h3:Zh (f+1) (.map ev)=2+Ah f ev:=CA f ev;simp only at h2;omega
  ·rintro e w' ⟨rfl,c',q0,z6⟩;rw[VX] at q0;refine⟨rfl,qb (ct1:=Zr (.string k) c' ct) ?_ ?_ (q0.low q9)⟩
   ·rw[q5,Fk,hv,z6]
   ·rw[q5]
end
theorem TU{f:Nat}{w:D0}{u:G3}{c:Zf}(h:Ad (f+1) w u c)(ho:ZQ (Zi (f+1) c)=true):∃b g es,c=Zj b g (.map es):=by
 obtain⟨b,g,y,rfl,_,h⟩:=h;rcases h with⟨k,_,_,rfl,_⟩|⟨n,_,rfl,_⟩|⟨s,_,rfl,_⟩|⟨al,sl,ps,rfl,_⟩|⟨es,n,D,rfl,_⟩
 ·cases ho
 ·cases ho
 ·cases ho
 ·cases ho
 ·exact⟨b,g,es,rfl⟩
section
variable{d x:Int}
theorem XD{f:Nat}(ih:Iv d x f){L:Nat}{p:List Nat}{w:D0}{D i:Nat}{rv jn iv:G3}{ch:Bool}{Tb T m c:Zf}{Mb M F:Nat->Prop}{wb:D0}{js:List Zk}{key:By}{pa:Option Addr}{pl pc:Nat}{path:List By}{v:G3}{ps:List (Lit×To)}{lv:Int}(hL:f+1+1+p.length=L)(qh:L<=top+1)(hJ:Bm L w D rv jn iv ch Tb Mb wb T M js)(hs:Zo p T=some m)(hf:AR m i key c)(hr:B4 m key)(qw:js.length+Zh (f+1) (.map ps)<=1000000000)(qp:Au w (GA L Tb wb M) (.slice pa pl pc) path)(qx:path.length<=p.length)(qb:path=[] -> ∃c,Value.slice pa pl pc=.slice none 0 c)(hv:Rep (f+1) F w v (.map ps))(hF:∀k,F k->M k)(hlv:1<=lv)(hg:Zl d x (f+1) lv (.map ps))(hsz:Zh (f+1) (.map ps)<=1000000)(qf:Zl d x (f+1) lv (Zi (f+1) c)/\Zh (f+1) (Zi (f+1) c)<=1000000)(hob:ZQ (Zi (f+1) c)=true):
  Calls E0 120 #[.pointer (some ⟨D,0,none⟩),plV (.slice pa pl pc) (Zv m) key i,v] w fun e w'=>e=.returned (.tuple #[])/\QI L D rv iv ch Tb Mb wb p T m i key (some c) M js (f+1) path (.map ps) w w':=by
 subst hL;have qu:top<=1000000:=by decide
 obtain⟨u,hu⟩:=Ad.at (f:=f+1+1) hJ.tr hs;obtain⟨a1,a2,a3,a4⟩:=hf.apart (Bz (f:=f+1+1) hs hJ.nd);obtain⟨yv,hc⟩:=hu.kidAt a4;obtain⟨b,g,es,rfl⟩:=TU hc hob;obtain⟨j,hj,q8⟩:=hf.kid;have qd:Zo (p++[j]) T=some (Zj b g (.map es)):=Gx hj hs;obtain⟨rfl,Dp,hvb,_⟩:=DJ hc;obtain⟨pb,pk,pn,qz,psl,pmv,rfl,qy,_⟩:=C3 hv;obtain⟨hd,q6⟩:=B8 hg;obtain⟨ev,qg⟩:∃ev,ev=es.map fun p=>(p.1,Zi f p.2):=⟨_,rfl⟩
 have q0:Zi (f+1) (Zj b g (.map es))=.map ev:=by rw[qg];rfl
 rw[q0] at qf;obtain⟨_,hem⟩:=B8 qf.1;have qr:Zh (f+1) (.map ps)=2+Ah f ps:=CA f ps;have qq:Zh (f+1) (.map ev)=2+Ah f ev:=CA f ev;have q7:Zz ps=ZJ ps:=Mu q6.1 q6.skey.2;have qn:(ZJ ps).length=ps.length:=by unfold ZJ;rw[A5]
 have hb:Below w.heap.size w (plW w pa pl pc (Zv m) key i):=CK;have qm:(plW w pa pl pc (Zv m) key i).heap.size=w.heap.size+1:=by simp
 have qo:=Da f ps;refine (Qx (MI:=L7 (f+1+1+p.length) D rv iv ch Tb Mb wb T M js (p++[j]) b g f path ev ps w) ((DN (hu.bel hb) hf hr.2).mono ?_) hvb (fun k hk=>(hJ.low k (hF k hk)).1) hv (by omega) ?_ qp (by omega) qb ?_ ?_ ?_).mono ?_
 ·rintro e w' ⟨⟨y,rfl,hy⟩,hb2⟩;obtain rfl:=hy.uniq hc;exact⟨rfl,qm▸hb2⟩
 ·rw[q7];intro k hk;obtain⟨t,ht,rfl⟩:=C1.1 hk;obtain⟨q,hq⟩:=O8 q6.skey.2 ht;have h1:=ND (f:=f) hq;have h2:=E5 (ZJ ps)[t];omega
 ·intro w3 hb3;obtain⟨qe,_⟩:=hJ.grow hb3 (fun j=>w.heap.size<=j/\j<w3.heap.size) (fun _ h=>h);refine⟨jn,T,_,es,?_,qd,?_,?_,JEx.refl _ _⟩
  ·show Bm _ _ _ _ _ _ _ _ _ _ _ _ (js++[]);rw[F5];exact qe
  ·exact qg.symm
  ·have h1:Ad (f+1+(p++[j]).length) w rv T:=by
    have e:f+1+(p++[j]).length=f+1+1+p.length:=by rw[A1];simp only[AS,A6];omega
    rw[e];exact hJ.tr
   rw[h1.put_self qd]
 ·rintro w3 t wr hb3 ⟨_,_,_,_,_,_,_,_,hX⟩;refine⟨hX.size,fun k hk hl=>(hX.kept k ?_).2⟩;rcases hk with hk|hk|hk
  ·exact D1 (hF k hk)
  ·exact D1 hk.1
  ·exact G2 ⟨hk,hl⟩
 ·rintro w3 t ht wr w1 xv vb hb3 qi hb1 ⟨xa,xl,xc,rfl⟩ htk hrq;obtain⟨k,hk⟩:∃k,k=(Zz ps)[t]:=⟨_,rfl⟩
  rw[<- hk] at htk hrq |-;have qt:t<(ZJ ps).length:=by rw[<- q7];exact ht
  obtain⟨q,hq⟩:=O8 q6.skey.2 qt;have hk2:k=(ZJ ps)[t]:=by
   rw[hk];simp only[q7]
  rw[<- hk2] at hq;have qk:(DataW.map ps).atKey (.string k) .nil=q:=WideAt.atKey_mem .nil (by exact trivial) (apart_of_rising q6.1) (Dt hq);rw[qk] at hrq;exact Wm ih (by rw[A1];simp only[AS,A6];omega) qh qd hq hlv hem q6 (by omega) (by omega) (by omega) (by rw[A1];simp only[AS,A6];omega) hF qi hb1 htk hrq
 ·rintro e w' ⟨rfl,w3,hb3,qv,Tt,Mt,ct,q1,q2,q3,q4,q5⟩;have q9:ps.take (Zz ps).length=ps:=by rw[q7,qn,List.take_length]
  rw[q9] at q1 q3;have hm:Zp (f+1) (some (.map ev)) path (.map ps)=(.map (A8 (Zp f) path ps ev).1,(A8 (Zp f) path ps ev).2):=E8 _ _ _ _;obtain⟨qe,qj⟩:=hJ.grow hb3 (fun j=>w.heap.size<=j/\j<w3.heap.size) (fun _ h=>h);refine⟨rfl,Zj b g (.map ct),⟨qv,Tt,Mt,?_,?_,qj.trans q5⟩,?_⟩
  ·rw[q4,MA _ hj hs,q8];rfl
  ·show Bm _ _ _ _ _ _ _ _ _ _ _ _ (js++(Zp (f+1) (some (Zi (f+1) (Zj b g (.map es)))) path (.map ps)).2);rw[q0,hm];exact q1
  ·show _=(Zp (f+1) (some (Zi (f+1) (Zj b g (.map es)))) path (.map ps)).1;rw[q0,hm,<- q3];rfl
theorem Lf:∀f:Nat,Iv d x f
 | 0=>fun _ _ _ _ _ _ _ _ _ _ hv _ _ _ _ _=>hv.elim
 | f+1=>fun hL q4 hJ hs ho hr q6 q5 q7 q0 hv hF hlv hg hsz hc=>by
  rename_i L p w D i rv jn iv ch Tb T m o Mb M F wb js key pa pl pc path v pt lv;by_cases hob:∃c,o=some c/\ZQ (Zi (f+1) c)=true/\ZQ pt=true
  ·obtain⟨c,rfl,h1,h2⟩:=hob;obtain⟨ps,rfl⟩:∃ps,pt=.map ps:=by
    cases pt with
    | map ps=>exact⟨ps,rfl⟩
    | _=>cases h2
   exact XD (Lf f) hL q4 hJ hs ho hr q6 q5 q7 q0 hv hF hlv hg hsz (hc c rfl) h1
  ·refine Wn hL q4 hJ hs ho hr (by omega) q5 hv (cT hg (by omega)) fun c e=>?_;cases h1:ZQ (Zi (f+1) c) with
   | false=>exact D1 rfl
   | true=>
    cases h2:ZQ pt with
    | false=>exact G2 rfl
    | true=>exact absurd ⟨c,e,h1,h2⟩ hob
end
theorem Bk(f:Nat)(p:Lit×To)(l:List (Lit×To)):Ah f (p::l)=(Ag (strOf p.1)).length+2+Zh f p.2+Ah f l:=by
 unfold Ah;rw[BY,DD]
theorem BW(f:Nat)(P:Lit×To->Bool):∀l:List (Lit×To),Ah f (l.filter P)<=Ah f l
 | []=>AT _
 | p::l=>by
  have h:=BW f P l;rw[Ft,Bk];split
  ·rw[Bk];omega
  ·omega
theorem GN{f:Nat}{k:By}{v:To}:∀ {es:List (Lit×To)},(AI k,v)∈es->Ah f (ZF (.string k) es)+((Ag k).length+2+Zh f v)<=Ah f es
 | p::r,h=>by
  rw[Bk];unfold ZF;rw[Ft];rcases List.mem_cons.1 h with rfl|h
  ·rw[if_neg (by simp[CU.2 rfl])];have:=BW f (fun p=>!p.1.sameKey (.string k)) r;exact A2 (Nat.add_le_add_right this _) (Nat.le_of_eq (Nat.add_comm _ _))
  ·have:=GN (f:=f) h;unfold ZF at this;split
   ·rw[Bk];omega
   ·omega
theorem H7(f:Nat)(x:Lit×To):∀l:List (Lit×To),Ah f (CD x l)=(Ag (strOf x.1)).length+2+Zh f x.2+Ah f l
 | []=>by show Ah f [x]=_;rw[Bk]
 | a::l=>by
  unfold CD;split
  ·rw[Bk]
  ·rw[Bk,H7 f x l,Bk];omega
theorem J6(f:Nat)(k:By)(c:To)(es:List (Lit×To)):Ah f (Zr (.string k) c es)=(Ag k).length+2+Zh f c+Ah f (ZF (.string k) es):=by
 unfold Zr;rw[H7];rfl
theorem OT:∀ (f:Nat) (p:To),Zh f (Bp f p)<=Zh f p
 | 0,_=>AT _
 | f+1,p=>by
  cases hob:ZQ p with
  | false=>rw[He hob];exact AT _
  | true=>
   obtain⟨ps,rfl⟩:∃ps,p=.map ps:=by
    cases p with
    | map ps=>exact⟨ps,rfl⟩
    | _=>cases hob
   show 2+Ah f ((ps.filter fun q=>!ZZ q.2).map fun q=>(q.1,Bp f q.2))<=2+Ah f ps;have h1:∀l:List (Lit×To),Ah f (l.map fun q=>(q.1,Bp f q.2))<=Ah f l:=by
    intro l;induction l with
    | nil=>exact AT _
    | cons a l ih=>
     rw[BY,Bk,Bk];have:=OT f a.2;simp only;omega
   have h2:=BW f (fun q=>!ZZ q.2) ps;exact Nat.add_le_add_left (A2 (h1 _) h2) 2
section
variable{d x:Int}
def cU(f:Nat)(o:Option To):Nat:=match o with
 | some v=>Zh f v
 | none=>0
def Vh(d x:Int)(f:Nat):Prop:=∀ (Zg:Int) (o:Option To) (s:List By) (p:To),1<=Zg->(∀v,o=some v->Zl d x f Zg v)->Zl d x f Zg p->Zh f (Zp f o s p).1<=cU f o+Zh f p
theorem FH{f:Nat}{p:Lit×To}(h:p∈es):Zh f p.2<=Ah f es:=by
 have h1:=EC (f:=f) h;have h2:Zh (f+1) (.map es)=2+Ah f es:=CA f es;omega
theorem O5{f:Nat}(ih:Vh d x f){Zg:Int}(hlv:1<=Zg)(s:List By):∀ (l es:List (Lit×To)),ZM d x f Zg es->ZM d x f Zg l->Ah f (A8 (Zp f) s l es).1<=Ah f es+Ah f l
 | [],es,_,_=>AT _
 | q::l,es,he,hl=>by
  have q0:ZM d x f Zg [q]:=⟨List.pairwise_singleton _ _,fun p hp=>hl.2 p (by rw[List.mem_singleton.1 hp];exact Bs)⟩
  have h1:ZM d x f Zg (Be (Zp f) s q es).1:=(Ip (JG f) hlv (B:=Ah f es) s [q] es he q0 fun r _ c hc=>FH hc).1;have h2:=O5 ih hlv s l (Be (Zp f) s q es).1 h1 ⟨(List.pairwise_cons.1 hl.1).2,fun p hp=>hl.2 p (CR _ hp)⟩;obtain⟨⟨k,ek,_⟩,hq⟩:=hl.2 q Bs;obtain⟨qk,qv⟩:=q;simp only at ek hq;subst ek;have h3:Ah f (Be (Zp f) s (.string k,qv) es).1<=Ah f es+((Ag k).length+2+Zh f qv):=by
   unfold Be;split
   ·split
    ·exact F1 _ _
    ·have:=BW f (fun p=>!p.1.sameKey (.string k)) es;exact A2 this (F1 _ _)
   ·simp only
    rw[J6];cases hg:As es (.string k) with
    | none=>
     have h4:=ih (Zg+1) none (s++[ES (.string k)]) qv (by omega) (fun v h=>by cases h) hq;have h5:=BW f (fun p=>!p.1.sameKey (.string k)) es;have h6:Ah f (ZF (.string k) es)<=Ah f es:=h5;unfold cU at h4;simp only at h4;omega
    | some o=>
     have hm:=R9 he hg;have h4:=ih (Zg+1) (some o) (s++[ES (.string k)]) qv (by omega) (fun v h=>by injection h with h;exact h▸(he.2 _ hm).2) hq;have h5:=GN (f:=f) hm;unfold cU at h4;simp only at h4;omega
  have h4:Ah f ((AI k,qv)::l)=(Ag k).length+2+Zh f qv+Ah f l:=Bk _ _ _;show Ah f (A8 (Zp f) s l (Be (Zp f) s (.string k,qv) es).1).1<=_;omega
theorem RE:∀f:Nat,Vh d x f
 | 0=>fun _ _ _ _ _ _ h=>h.elim
 | f+1=>fun Zg o s p hlv ho hp=>by
  have q0:=OT (f+1) p;cases o with
  | none=>exact A2 q0 (G0 _ _)
  | some v=>
   by_cases hob:ZQ v=true/\ZQ p=true
   ·obtain⟨h1,h2⟩:=hob;obtain⟨es,rfl⟩:∃es,v=.map es:=by
     cases v with
     | map es=>exact⟨es,rfl⟩
     | _=>cases h1
    obtain⟨ps,rfl⟩:∃ps,p=.map ps:=by
     cases p with
     | map ps=>exact⟨ps,rfl⟩
     | _=>cases h2
    have e:Zp (f+1) (some (.map es)) s (.map ps)=(.map (A8 (Zp f) s ps es).1,(A8 (Zp f) s ps es).2):=E8 _ _ _ _;rw[e];have h3:=O5 (RE f) hlv s ps es (B8 (ho _ rfl)).2 (B8 hp).2;show 2+Ah f (A8 (Zp f) s ps es).1<=(2+Ah f es)+(2+Ah f ps)
    omega
   ·have e:(Zp (f+1) (some v) s p).1=Bp (f+1) p:=by
     cases v<;>cases p<;>first|rfl|exact absurd ⟨rfl,rfl⟩ hob
    rw[e];exact A2 q0 (G0 _ _)
theorem RH{B P:Nat}{o:Zk}(h:aS d x B P o)(hd:d<=500)(hP:P<=200000):FZ d x B o:=by
 refine⟨A2 h.2.1 hP,fun h1=>?_⟩;obtain⟨f,Zg,hlv,hg,hs⟩:=h.2.2 h1;have g1:=Fp (s:=1-Zg) hg;rw[show Zg+(1-Zg)=1 by omega] at g1;have g2:Zl d x f 1 o.2.2:=CE (by omega) g1;refine⟨Co g2 (by unfold top;omega),hd,?_⟩;have g3:Zl d x (max f top) 1 o.2.2:=Co g2 (by have:top<=max f top:=F2 _ _;unfold top at this |-; omega);have e1:=EZ g2 (Nat.le_max_left f top);have e2:=EZ (Co (f:=top) g2 (by unfold top;omega)) (F2 f top);omega
end
noncomputable def cE(v q:To):Except (Nat×Nat) (To×List Zk):=if 20000<(Zm top (Zp top (some v) [] q).1).length then .error (4,0) else .ok (Zp top (some v) [] q)
section
variable{w:D0}{D R:Nat}{wp:Option Addr}{iv:G3}{ch:Bool}{Tb T a:Zf}{Mb M F:Nat->Prop}{wb:D0}{v q:To}{d x:Int}{p2:Option Addr}
theorem Qq(h:JS w D R wp (.slice none 0 0) iv ch Tb Mb wb T a v M [])(q7:Zl d x top 1 v)(qe:Zh top v<=200000)(hq:Rep top F w (.pointer p2) q)(hF:∀k,F k->M k)(q6:Zl d x top 1 q)(qd:Zh top q<=200000):
  Calls E0 120 #[.pointer (some ⟨D,0,none⟩),plV (.slice none 0 0) R [] 0,.pointer p2] w fun e w'=>e=.returned (.tuple #[]) /\ ∃qb q9 T' a' M',JS w' D R qb q9 iv ch Tb Mb wb T' a' (Zp top (some v) [] q).1 M' (Zp top (some v) [] q).2/\JEx M M' w w':=by
 obtain⟨g,q5⟩:=h.t.one;have q4:=h.t.str;have q8:AR (Zj R g (.slice [a] [])) 0 [] a:=D1 ⟨R,g,[a],rfl,rfl⟩;have H:Iv d x top:=Lf top;refine (@H (top+1) [] w D 0 (.pointer (some ⟨R,0,none⟩)) (.slice none 0 0) iv ch Tb T (Zj R g (.slice [a] [])) (some a) Mb M F wb [] [] none 0 0 [] (.pointer p2) q 1 rfl (AT _) h.j (by rw[q5];rfl) q8 ⟨by rw[BO];show 1+1<=1000000000000;omega,by decide⟩ (by simp only[A6];omega) (D1 ⟨rfl,none,0,rfl,by unfold maxLen;omega⟩) (AT _) (fun _=>⟨0,rfl⟩) hq hF (by omega) q6 (by omega) (fun c hc=>by injection hc with hc;subst hc;rw[q4];exact⟨q7,by omega⟩)).mono ?_;rintro e w' ⟨rfl,c',q0,hc⟩;rw[show (some a).map (Zi top)=some v by rw[<- q4];rfl] at q0 hc;exact⟨rfl,JS.done (js:=(Zp top (some v) [] q).2) q0 rfl hc⟩
theorem Qy(h:JS w D R wp (.slice none 0 0) iv ch Tb Mb wb T a v M [])(hT:Af w)(qj:∀k,k<NG->M k)(qk:∀k,Mb k->k≠D/\k<w.heap.size)(hd:d<=100)(q8:Zl d x top 1 v)(qb:Zh top v<=200000)(hq:Rep top F w (.pointer p2) q)(hF:∀k,F k->M k)(q7:Zl d x top 1 q)(qn:Zh top q<=200000):
  Calls E0 85 #[.pointer (some ⟨D,0,none⟩),.pointer p2] w fun e w'=>∃c:Nat,e=.returned (.int .i64 c)/\DT D R iv ch Tb Mb wb M d x 100000 w (cE v q) (.returned (.tuple #[.int .i64 0,.int .i64 c])) w':=by
 have HM:=Ab (Qq h q8 qb hq hF q7 qn);obtain⟨q1,q2,q3⟩:=JG (d:=d) (x:=x) top 1 (some v) [] q 200000 (by omega) (fun u hu=>by injection hu with hu;subst hu;exact⟨q8,qb⟩) q7;have q4:Zh top (Zp top (some v) [] q).1<=400000:=by
  have h1:Zh top (Zp top (some v) [] q).1<=Zh top v+Zh top q:=RE (d:=d) (x:=x) top 1 (some v) [] q (by omega) (fun u hu=>by injection hu with hu;subst hu;exact q8) q7;omega
 have qu:=Ab h;have qm:=h.t.db;have c0:=qm.c0;have HT:=Ab hT;have qo:=Ab qj;have qp:=Ab qk;have HG:=Ab q1;have HO:=Ab (fun o (ho:o∈(Zp top (some v) [] q).2)=>RH (q2 o ho) (by omega) (by simp only[List.map_nil,List.sum_nil];omega));have HL:=Ab (show (Zp top (some v) [] q).2.length<=200000 by omega);have qg:=Ab q4;obtain⟨v1,qd⟩:∃v1,v1=(Zp top (some v) [] q).1:=⟨_,rfl⟩
 obtain⟨j1,q9⟩:∃j1,j1=(Zp top (some v) [] q).2:=⟨_,rfl⟩
 have HX:=Ab (show cE v q=if 20000<(Zm top v1).length then .error (4,0) else .ok (v1,j1) by unfold cE;rw[qd,q9]);rw[<- qd] at HM HG qg;rw[<- q9] at HM HO HL;obtain⟨r,hr⟩:∃r,r=cE v q:=⟨_,rfl⟩
 rw[<- hr] at HX |-;obtain⟨Q,hQ⟩:∃Q:Ending->D0->Prop,Q=fun e w'=>∃c:Nat,e=.returned (.int .i64 c)/\DT D R iv ch Tb Mb wb M d x 100000 w r (.returned (.tuple #[.int .i64 0,.int .i64 c])) w':=⟨_,rfl⟩
 rw[<- hQ];have HQ:=Ab hQ;clear h hT qj qk q8 qb hq hF q7 qn q1 q2 q3 q4 qm qd q9 hr hQ
 go_enter func85,ntmps85
 go_wp2_with (fail);refine (Aa HM).mono ?_
 rintro e w1 ⟨rfl,qt,qr,T1,a1,M1,s1,s2⟩;have HJ:=Ab s1;have qi:=Ab s2;have qe:=Ab (JT (d:=d) (x:=x) (B:=400000) s1 ((Aa HT).jex (Aa qo) s2) ⟨Aa HG,by omega,Aa qg⟩ (by omega));clear s1 s2
 go_wp2_with (fail);refine (Aa qe).mono ?_
 rintro e w2 ⟨rfl,hb2⟩;have q6:=Ab hb2;clear hb2 qe;by_cases q0:20000<(Zm top v1).length
 ·have qh:=Ab (Ff (d:=d) (x:=x) (n:=100000) (c:=4) (i:=0) ((Aa HJ).bel (Aa q6)) ((Aa qi).trans ((Aa HJ).j.bel (Aa q6)).2) (Aa qp));have hr:=Aa HX;rw[if_pos q0] at hr;have q5:=decide_eq_true q0;rw[q5];clear q5 q0 HX
  go_wp2_with (fail);refine (Aa qh).mono ?_
  rintro e w3 ⟨rfl,hp⟩;have HP:=Ab hp;clear hp qh
  go_wp2_with (fail);show Q (.returned (.int .i64 4)) _
  rw[Aa HQ];refine⟨4,rfl,?_⟩;rw[hr];exact Aa (Aa HP)
 ·have HK:=Ab (MZ (((Aa HJ).bel (Aa q6)).j) (by have:=Aa HL;omega));have hr:=Aa HX;rw[if_neg q0] at hr;have qf:=Ab (show (Zm top v1).length<=20000 by omega);have q5:=decide_eq_false q0;rw[q5];clear q5 q0 HX
  go_wp2_with (fail);refine (Aa HK).mono ?_
  rintro e w3 ⟨rfl,qq,k1,k2,k3⟩;have HP:=Ab (show DT D R iv ch Tb Mb wb M d x 100000 w (.ok (v1,j1)) (.returned (.tuple #[.int .i64 0,.int .i64 0])) w3 from⟨rfl,qt,qr,T1,a1,M1,w2,qq,(Aa HJ).bel (Aa q6),(Aa qi).trans ((Aa HJ).j.bel (Aa q6)).2,k1,k2,k3,⟨Aa HG,by omega,by have:=(BX (Aa HG)).2;have:=Aa qf;omega⟩,by have:=Aa qf;omega,Aa HO,by have:=Aa HL;omega⟩);clear k1 k2 k3 HK
  go_wp2_with (fail);show Q (.returned (.int .i64 0)) _
  rw[Aa HQ];refine⟨0,rfl,?_⟩;rw[hr];exact Aa HP
end
end Go.Proofs.YtdpomdelmdofmaaGreatDoor
