import Derived.Test.YtdpomdelmdofmaaGreatDoorRea22
open Go.Proofs.Tryz renaming prog->AI
open Go.RowKit renaming Below->AS
open Go renaming World->AT,Calls->A1,bodyPost_ret->A3,results->Bs,maxLen->CH,Value->CL
open Go.RowKit.Below renaming refl->A2
open Nat renaming le_refl->A4
open List renaming getElem_map->A5,take_of_length_le->A6
open Go.ByteArray renaming toList_mk->BY
open Go.IntKind renaming wrap_i64->CD
set_option maxRecDepth 100000
set_option maxHeartbeats 4000000
namespace Go.Proofs.YtdpomdelmdofmaaGreatDoor
open Go.Proofs.Tryz Go.RowKit Go.Maps
variable{g o n cap:Nat}{l:List By}
section
variable{w:AT}{D b i:Nat}{key:By}{pa x:Option Addr}{pl pc:Nat}
theorem U5{y:Addr}{Q:AT->Prop}(hG:A1 AI 159 #[plV (.slice pa pl pc) b key i] (plW w pa pl pc b key i) fun e w'=>e=.returned (.pointer (some y))/\AS (w.heap.size+1) (plW w pa pl pc b key i) w')(hC:∀w2,AS (w.heap.size+1) (plW w pa pl pc b key i) w2->A1 AI 200 #[.pointer (some ⟨D,0,none⟩),plV (.slice pa pl pc) b key i,.pointer x] w2 fun e w'=>e=.returned (.tuple #[])/\Q w'):
  A1 AI 160 #[.pointer (some ⟨D,0,none⟩),plV (.slice pa pl pc) b key i,.pointer x] w fun e w'=>e=.returned (.tuple #[])/\Q w':=by
 have HG:=Ab hG;have HC:=Ab hC;have q4:=heap_alloc_new w (.cells #[.slice pa pl pc,.pointer (some ⟨b,0,none⟩),.string ⟨key.toArray⟩,.int .i64 i] 185);have HP:=Ab (show AL (plW w pa pl pc b key i) w.heap.size (.slice pa pl pc) b key i from q4);clear hG hC q4
 go_enter func160,ntmps160
 go_wp2_with (fail);refine (Aa HG).mono ?_
 rintro e w2 ⟨rfl,hb⟩;have q0:AL w2 w.heap.size (.slice pa pl pc) b key i:=(hb.block _ (by omega)).trans (Aa HP);have e0:=q0.c0;have e1:=q0.c1;have e2:=q0.c2;have e3:=q0.c3;have HB:=Ab hb;clear hb q0
 go_wp2_with (fail);refine (Aa HC w2 (Aa HB)).mono ?_
 rintro e w3 ⟨rfl,hq⟩
 go_wp2_with (fail);exact A3 (v:=.tuple #[]) (by simp[Bs,results160,go_sem]) rfl ⟨rfl,hq⟩
theorem PY{Q:AT->Prop}(hG:A1 AI 159 #[plV (.slice pa pl pc) b key i] (plW w pa pl pc b key i) fun e w'=>e=.returned (.pointer none)/\AS (w.heap.size+1) (plW w pa pl pc b key i) w')(hC:∀w2,AS (w.heap.size+1) (plW w pa pl pc b key i) w2->A1 AI 205 #[.pointer (some ⟨D,0,none⟩),plV (.slice pa pl pc) b key i,.pointer x] w2 fun e w'=>e=.returned (.tuple #[])/\Q w'):
  A1 AI 160 #[.pointer (some ⟨D,0,none⟩),plV (.slice pa pl pc) b key i,.pointer x] w fun e w'=>e=.returned (.tuple #[])/\Q w':=by
 have HG:=Ab hG;have HC:=Ab hC;have q4:=heap_alloc_new w (.cells #[.slice pa pl pc,.pointer (some ⟨b,0,none⟩),.string ⟨key.toArray⟩,.int .i64 i] 185);have HP:=Ab (show AL (plW w pa pl pc b key i) w.heap.size (.slice pa pl pc) b key i from q4);clear hG hC q4
 go_enter func160,ntmps160
 go_wp2_with (fail);refine (Aa HG).mono ?_
 rintro e w2 ⟨rfl,hb⟩;have q0:AL w2 w.heap.size (.slice pa pl pc) b key i:=(hb.block _ (by omega)).trans (Aa HP);have e0:=q0.c0;have e1:=q0.c1;have e2:=q0.c2;have e3:=q0.c3;have HB:=Ab hb;clear hb q0
 go_wp2_with (fail);refine (Aa HC w2 (Aa HB)).mono ?_
 rintro e w3 ⟨rfl,hq⟩
 go_wp2_with (fail);exact bodyPost_end (results_none rfl _ _ _) rfl ⟨rfl,hq⟩
end
theorem JY{f b i:Nat}{w:AT}{u pth:CL}{es:List (Lit×dS)}{key:By}(h:Ad (f+1) w u (dW b g (.map es)))(hf:∀p∈es,p.1≠Lit.string key)(hk:key.length<=1048576):
  A1 AI 159 #[plV pth b key i] w fun e w'=>e=.returned (.pointer none)/\AS w.heap.size w w':=by
 obtain⟨_,D,hvb,ho,hp⟩:=D7 h;have hh:Maps.has (.map D) (.string key)=false:=by
  rw[Pt.has _ hp];refine Bool.eq_false_iff.2 fun ht=>?_;obtain⟨p,h1,h2⟩:=List.any_eq_true.1 (show (es.any fun p=>p.1.sameKey (.string key))=true from ht);rw[sameKey_ne (hf p h1)] at h2;cases h2
 have hx:(DataW.map D).atKey (.string key) (.held (.pointer none))=.held (.pointer none):=by
  have h3:D.find? (fun p=>p.1.sameKey (.string key))=none:=by
   rw[List.find?_eq_none];intro p hp ht;have h4:(D.any fun p=>p.1.sameKey (.string key))=true:=by grind
   have h5:(D.any fun p=>p.1.sameKey (.string key))=false:=hh
   grind
  rw[B2,h3]
 exact QO (pth:=pth) (i:=i) hk hvb ho hx
theorem Hx{w w2:AT}{o:Obj}(h:AS (w.heap.size+1) (w.alloc o) w2):AS w.heap.size w w2:=by
 have hb:AS w.heap.size w (w.alloc o):=(A2 _ _).alloc (A4 _) _;exact⟨h.os.trans hb.os,h.tape.trans hb.tape,h.output.trans hb.output,Nat.le_trans hb.size h.size,fun k hk=>(h.block k (by omega)).trans (hb.block k hk)⟩
theorem Bv.bel{L:Nat}{w w':AT}{D:Nat}{rv jn iv:CL}{ch:Bool}{Tb T:dS}{Mb M:Nat->Prop}{wb:AT}{js:List dX}(h:Bv L w D rv jn iv ch Tb Mb wb T M js)(hb:AS w.heap.size w w'):
  Bv L w' D rv jn iv ch Tb Mb wb T M js/\JEx M M w w':=by
 have h1:=h.grow hb (fun _=>False) (fun _ hx=>hx.elim)
 grind
section
variable{f:Nat}{p:List Nat}{w:AT}{D i:Nat}{rv jn iv:CL}{ch:Bool}{Tb T m c x:dS}{Mb M:Nat->Prop}{wb:AT}{js:List dX}{key:By}{pa px:Option Addr}{pl pc:Nat}{path:List By}
theorem Yw(hJ:Bv (f+1+p.length) w D rv jn iv ch Tb Mb wb T M js)(hs:eD p T=some m)(hf:AV m i key c)(hr:B7 m key)(hl:js.length<=1000000000)(hp:Aw w (GA (f+1+p.length) Tb wb M) (.slice pa pl pc) path)(q5:f<=top)(hx:Ad f w (.pointer px) x)(q8:(fp f x).Nodup)(q7:∀k∈fp f x,¬ M k/\k ∉ fp (f+1+p.length) T/\k≠D/\jn.ownBlock≠some k/\wb.heap.size<=k):
  A1 AI 160 #[.pointer (some ⟨D,0,none⟩),plV (.slice pa pl pc) (eK m) key i,.pointer px] w fun e w'=>e=.returned (.tuple #[]) /\
   BU (f+1+p.length) D rv iv ch Tb Mb wb (eI p (BM i key x m) T) M (js++[(2,path,dV f c)]) w w':=by
 obtain⟨u,hu⟩:=Ad.at (f:=f+1) hJ.tr hs;obtain⟨a1,a2,a3,a4⟩:=hf.apart (BI (f:=f+1) hs hJ.nd);obtain⟨yv,hc⟩:=hu.kidAt a4;obtain⟨yb,rfl,_⟩:=hc.ptr;have hb:AS w.heap.size w (plW w pa pl pc (eK m) key i):=(A2 _ _).alloc (A4 _) _;have qb:(plW w pa pl pc (eK m) key i).heap.size=w.heap.size+1:=by simp
 refine U5 (y:=⟨yb,0,none⟩) ((Ea (hu.bel hb) hf hr.2).mono ?_) (fun w2 hb2=>?_)
 ·rintro e w' ⟨⟨y,rfl,hy⟩,hb2⟩;obtain rfl:=hy.uniq hc
  grind
 ·have h2:=Hx hb2;obtain⟨q0,q4⟩:=hJ.bel h2;refine (NR q0 hs hf hr hl (hp.move fun k hk q6=>⟨h2.block k q6,hk⟩) q5 (hx.bel h2) q8 q7).mono ?_;rintro e w3 ⟨rfl,q9,T',M',q1,q2,q3⟩;exact⟨rfl,q9,T',M',q1,q2,q4.trans q3⟩
theorem VS{b:Nat}{es:List (Lit×dS)}(hJ:Bv (f+1+p.length) w D rv jn iv ch Tb Mb wb T M js)(hs:eD p T=some (dW b g (.map es)))(hf:∀p∈es,p.1≠Lit.string key)(hr:B7 (dW b g (.map es)) key)(hl:js.length<=1000000000)(hp:Aw w (GA (f+1+p.length) Tb wb M) (.slice pa pl pc) path)(hx:Ad f w (.pointer px) x)(q8:(fp f x).Nodup)(q7:∀k∈fp f x,¬ M k/\k ∉ fp (f+1+p.length) T/\k≠D/\jn.ownBlock≠some k/\wb.heap.size<=k):
  A1 AI 160 #[.pointer (some ⟨D,0,none⟩),plV (.slice pa pl pc) b key i,.pointer px] w fun e w'=>e=.returned (.tuple #[]) /\
   BU (f+1+p.length) D rv iv ch Tb Mb wb (eI p (B0 i key x (dW b g (.map es))) T) M (js++[(1,path,.nil)]) w w':=by
 obtain⟨u,hu⟩:=Ad.at (f:=f+1) hJ.tr hs;have hb:AS w.heap.size w (plW w pa pl pc b key i):=(A2 _ _).alloc (A4 _) _;have q5:(plW w pa pl pc b key i).heap.size=w.heap.size+1:=by simp
 refine PY ((JY (hu.bel hb) hf hr.2).mono ?_) (fun w2 hb2=>?_)
 ·rintro e w' ⟨rfl,hb2⟩;exact⟨rfl,q5▸hb2⟩
 ·have h2:=Hx hb2;obtain⟨q0,q4⟩:=hJ.bel h2;refine (KV (m:=dW b g (.map es)) q0 hs (Or.inr ⟨b,g,es,rfl,hf⟩) hr hl (hp.move fun k hk q6=>⟨h2.block k q6,hk⟩) (hx.bel h2) q8 q7).mono ?_;rintro e w3 ⟨rfl,q9,T',M',q1,q2,q3⟩;exact⟨rfl,q9,T',M',q1,q2,q4.trans q3⟩
end
theorem JE{w:AT}{D:Nat}{t:By}{wp:Option Addr}{R:AT->Option Addr->Int->Prop}(hn:n+1<=cap)(q0:cap<=CH)(hg:g<w.heap.size)(ht:w.cell? ⟨g,o+n,none⟩=some (.string ⟨t.toArray⟩))(hW:∀w1,AS w.heap.size w w1->A1 AI 56 #[.pointer (some ⟨D,0,none⟩)] w1 fun x w'=>x=.returned (.pointer wp)/\AS w1.heap.size w1 w')(hF:∀w1,AS w.heap.size w w1->A1 AI 81 #[.slice (some ⟨g,o,none⟩) n cap,.pointer wp] w1 fun e w'=>∃x c,e=.returned (.tuple #[.pointer x,.int .i64 c])/\Hid (R w' x c)/\AS w1.heap.size w1 w'):
  A1 AI 243 #[.pointer (some ⟨D,0,none⟩),.slice (some ⟨g,o,none⟩) (n+1) cap] w fun e w'=>∃x c,e=.returned (.tuple #[.pointer x,.string ⟨t.toArray⟩,.int .i64 c])/\Hid (∃w2,R w2 x c/\w'.heap=w2.heap)/\AS w.heap.size w w':=by
 have HW:=Ab hW;have HF:=Ab hF;have hB:=A2 w.heap.size w;unfold CH at q0;have e1:IntKind.i64.wrap (n:Int)=n:=by rw[CD];omega
 have e2:IntKind.i64.wrap ((n:Int)+1-1)=n:=by grind
 have l1:(0:Int)<=(n:Int):=by omega
 have l2:n<=cap:=by omega
 have l3:n<n+1:=by omega
 clear hW hF
 go_enter func243,ntmps243
 go_wp2_with (fail)
 go_region_with (first
  | (go_at_call 56;refine (Aa HW _ ?_).mono ?_;exact⟨rfl,rfl,rfl,A4 _,fun _ _=>rfl⟩;rintro x w2 ⟨rfl,hb2⟩;replace hb2:AS w.heap.size w w2:=⟨hb2.os,hb2.tape,hb2.output,hb2.size,hb2.block⟩)
  | (go_at_call 81;refine (Aa HF _ ?_).mono ?_;exact (by omega);rintro e w3 ⟨x,c,rfl,hR,hb3⟩))
 all_goals (
  replace hb3:AS w.heap.size w w3:=hb2.trans ⟨hb3.os,hb3.tape,hb3.output,hb3.size,fun k hk=>hb3.block k (Nat.lt_of_lt_of_le hk hb2.size)⟩
  have q5:w3.cell? ⟨g,o+n,none⟩=some (.string ⟨t.toArray⟩):=(hb3.cell (p:=⟨g,o+n,none⟩) hg).trans ht;have q4:=Ab hb3;have HR:Hid (R w3 x c):=hR;clear hb2 hb3 hB ht hR
  go_wp2_with (fail)
  go_region_with (fail))
 all_goals (
  go_wp2_with (fail);refine A3 (v:=.tuple #[.pointer x,.string ⟨t.toArray⟩,.int .i64 c]) (by simp[Bs,results243,go_sem]) rfl ?_
  have h3:=Aa q4;exact⟨x,c,rfl,Ab ⟨w3,Aa HR,rfl⟩,⟨h3.os,h3.tape,h3.output,h3.size,h3.block⟩⟩)
theorem RH:(Tryz.prog.info? 9).map (fun i=>(i.zero,i.size,i.bytes))=some (some (.string ⟨#[]⟩),1,16):=by kernel_rfl
abbrev Nw(l:List By):List CL:=l.map fun t=>.string ⟨t.toArray⟩
theorem PD{w:AT}(ht:C7 w g o l)(hl:0<l.length)(hb:l.length<=1000000000):
  A1 AI 289 #[.slice (some ⟨g,o,none⟩) l.length cap] w fun e w'=>∃g2 c2,e=.returned (.slice (some ⟨g2,0,none⟩) l.length c2)/\w'.ownsRow w.heap.size 9 1 (.slice (some ⟨g2,0,none⟩) l.length c2) l.length (Nw l)/\AS w.heap.size w w':=by
 obtain⟨i0,q0,hz0,q4,hz2⟩:=info_parts RH;have hc:=AnyE.slices_Clone Tryz.eClone i0 (.string ⟨#[]⟩) 1 16 q0 hz0 q4 hz2 rfl (by decide) (fun w=>Tryz.sizeOf9 w) g o l.length cap (Nw l) w (by simp) (by unfold CH;omega) (by omega) (fun j u hu=>by
  obtain⟨hj,rfl⟩:=List.getElem?_eq_some_iff.1 hu;rw[A5];exact ht.2 j (by grind)) (fun u hu=>by
  obtain⟨t,_,rfl⟩:=List.mem_map.1 hu;rfl)
 refine hc.mono ?_;rintro e w' ⟨v',rfl,ho,hne,hb⟩;rcases ho.2 with⟨h,_⟩|⟨g2,c2,cur,rfl,_⟩
 ·omega
 ·exact⟨g2,c2,rfl,ho,hb⟩
theorem PZ{w:AT}{i:Nat}(hT:Ai w)(ht:C7 w g o l)(hl:l.length=n+1)(hb:l.length<=1000000000)(hi:i<=1000000000000):
  A1 AI 245 #[.slice (some ⟨g,o,none⟩) (n+1) cap,.int .i64 i] w fun e w'=>∃g2 c2,e=.returned (.slice (some ⟨g2,0,none⟩) (n+1) c2)/\w'.ownsRow w.heap.size 9 1 (.slice (some ⟨g2,0,none⟩) (n+1) c2) (n+1) (Nw (l.set n (Lib.itoa (i:Int))))/\AS w.heap.size w w':=by
 have HC:=Ab (PD (cap:=cap) ht (by omega) hb);have HT:=Ab hT;rw[hl] at HC;have e1:IntKind.i64.wrap (n:Int)=n:=by rw[CD];omega
 have e2:IntKind.i64.wrap ((n:Int)+1-1)=n:=by grind
 have l3:n<n+1:=by omega
 have l4:(0:Int)<=(n:Int):=by omega
 have HL:=Ab hl;clear hT ht hl hb
 go_enter func245,ntmps245
 go_wp2_with (fail);refine (Aa HC).mono ?_
 rintro e w2 ⟨g2,c2,rfl,ho,q5⟩;have HO:=Ab ho;have HB:=Ab q5;have q6:=((Aa HT).below (q5.mono (Aa HT).ng)).tab;clear ho q5 HC
 go_wp2_with (fail);refine (Tryz.strconv_Itoa i (by omega) (by omega) w2 q6).mono ?_
 rintro e w5 ⟨rfl,kk,os,rfl⟩;have q4:=Fu w2 kk os;generalize Sort.grow (w2.drewN kk) os=w5 at *;have q8:w.heap.size<=g2/\g2<w2.heap.size:=by
  have h:=AA (Aa HO) g2 rfl;omega
 have q0:=AC (w':=w5) (Aa HO) fun k hk=>by
  simp[Value.ownBlock] at hk;subst hk;exact q4.block _ q8.2
 have hnl:n<l.length:=by rw[Aa HL];exact l3
 have q7:w5.cell? ⟨g2,n,none⟩=some (.string ⟨l[n].toArray⟩):=by
  rw[q0.cellAt n (by omega),List.getElem?_map,List.getElem?_eq_getElem hnl];rfl
 have hz:w5.frozen? ⟨g2,n,none⟩=false:=by
  rcases q0.2 with⟨h',_⟩|⟨g',qd,cur,h',_,hg,_⟩
  ·simp at h'
  ·simp only[Value.slice.injEq,Option.some.injEq,Addr.mk.injEq,and_true,true_and] at h';obtain⟨rfl,_⟩:=h';simp[World.frozen?,hg]
 have qb:=Ab q0;have q9:=Ab ((Aa HB).trans (q4.mono (by omega)));clear q0 q4 q6
 go_wp2_with (fail);refine A3 (v:=.slice (some ⟨g2,0,none⟩) (n+1) c2) (by simp[Bs,results245,go_sem]) rfl ⟨g2,c2,rfl,?_,Au (Aa q9) g2 n q8.1 _⟩
 have h:=((Aa qb).stored n (.string ⟨(Lib.itoa (i:Int)).toArray⟩)).1
 simp_all
theorem Ng:∀ {l m:List By},Lib.allEq (fun x y:ByteArray=>x.toList==y.toList) (l.map fun t=>⟨t.toArray⟩) (m.map fun t=>⟨t.toArray⟩)=(l==m)
 | [],[]=>rfl
 | [],_::_=>rfl
 | _::_,[]=>rfl
 | x::l,y::m=>by
  have ih:=Ng (l:=l) (m:=m);simp only[List.map_cons,Lib.allEq];rw[ih];show _=(x==y && l==m)
  rw[BY,BY]
theorem Rs{w:AT}{a1 a2:Option Addr}{c m d:Nat}(h:n≠m):A1 AI 202 #[.slice a1 n c,.slice a2 m d] w fun e w'=>e=.returned (.bool false)/\AS w.heap.size w w':=by
 have e1:¬ ((n:Int)=(m:Int)):=by omega
 have e2:((n:Int) != (m:Int))=true:=by grind
 have e3:((n:Int)==(m:Int))=false:=by grind
 go_enter func202,ntmps202
 go_wp2_with (fail)
 go_ret;exact⟨rfl,A2 _ _⟩
theorem Rt{w:AT}{g1 o1 c1 g2 o2 c2:Nat}{m:List By}(h1:C7 w g1 o1 l)(h2:C7 w g2 o2 m)(hl:l.length<=CH)(hm:m.length<=CH):
  A1 AI 202 #[.slice (some ⟨g1,o1,none⟩) l.length c1,.slice (some ⟨g2,o2,none⟩) m.length c2] w fun e w'=>e=.returned (.bool (l==m))/\AS w.heap.size w w':=by
 unfold CH at hl hm;have hc:=AnyE.slices_Equal Tryz.eEqual Value.string (fun x y=>x.toList==y.toList) (NeqAt.string _ _) g1 o1 l.length c1 g2 o2 m.length c2 (l.map fun t=>⟨t.toArray⟩) (m.map fun t=>⟨t.toArray⟩) w (by simp) (by simp) (by omega) (by omega) (fun j hj=>by
  have q0:j<l.length:=by grind
  rw[h1.2 j q0,getElem!_pos _ j hj,A5]) (fun j hj=>by
  have q0:j<m.length:=by grind
  rw[h2.2 j q0,getElem!_pos _ j hj,A5])
 refine hc.mono ?_;rintro e w' ⟨rfl,q,rfl⟩;refine⟨?_,⟨rfl,rfl,rfl,A4 _,fun _ _=>rfl⟩⟩;rw[A6 (by simp),A6 (by simp),Ng]
theorem Ru{w:AT}{a1 a2:Option Addr}{c d:Nat}:A1 AI 202 #[.slice a1 0 c,.slice a2 0 d] w fun e w'=>e=.returned (.bool true)/\AS w.heap.size w w':=by
 go_enter func202,ntmps202
 go_wp2
 go_loopg [13] 0 (fun g q0 wr=>q0=.int .i64 (0:Nat)/\wr=w)
 case atStart=>grind
 case round=>
  obtain⟨rfl,rfl⟩:=hrel
  go_wp2
  go_ret;exact⟨rfl,A2 _ _⟩
theorem CW.form{w:AT}{v:CL}(h:CW w v l):∃a c,v=.slice a l.length c/\l.length<=c\/l.length=0/\v=.slice a l.length c:=by
 rcases h with⟨rfl,a,c,rfl,_⟩|⟨g,o,cap,rfl,h1,_⟩
 ·simp_all
 grind
theorem Jv{w:AT}{v1 v2:CL}{m:List By}(h1:CW w v1 l)(h2:CW w v2 m):
  A1 AI 202 #[v1,v2] w fun e w'=>e=.returned (.bool (l==m))/\AS w.heap.size w w':=by
 by_cases q5:l.length=m.length
 ·by_cases hl0:l.length=0
  ·have hl:l=[]:=by grind
   have hm:m=[]:=by grind
   subst hl;subst hm;obtain⟨a1,c1,e1⟩:=h1.form;obtain⟨a2,c2,e2⟩:=h2.form;have q0:v1=.slice a1 0 c1:=by grind
   have q4:v2=.slice a2 0 c2:=by grind
   subst q0;subst q4;exact Ru
  ·rcases h1 with⟨rfl,_⟩|⟨g1,o1,c1,rfl,b1,b2,t1⟩
   ·exact absurd rfl hl0
   ·rcases h2 with⟨rfl,_⟩|⟨g2,o2,c2,rfl,d1,d2,t2⟩
    ·exact absurd q5 hl0
    ·exact Rt t1 t2 (by omega) (by omega)
 ·obtain⟨a1,c1,e1⟩:=h1.form;obtain⟨a2,c2,e2⟩:=h2.form;have q0:v1=.slice a1 l.length c1:=by grind
  have q4:v2=.slice a2 m.length c2:=by grind
  subst q0;subst q4;refine (Rs q5).mono ?_;rintro e w' ⟨rfl,hb⟩;have:(l==m)=false:=by grind
  grind
theorem Sz{w:AT}{v1 v2:CL}{m:List By}(h1:CW w v1 l)(h2:CW w v2 m):
  A1 AI 203 #[v1,v2] w fun e w'=>e=.returned (.bool (EX l m))/\AS w.heap.size w w':=by
 obtain⟨a2,c2,e2⟩:=h2.form;have q0:v2=.slice a2 m.length c2:=by grind
 clear e2;subst q0;by_cases hlt:m.length<l.length
 ·rcases h1 with⟨rfl,_⟩|⟨g1,o1,c1,rfl,b1,b2,t1⟩
  ·simp at hlt
  ·have hT:CW w (.slice (some ⟨g1,o1,none⟩) m.length c1) (l.take m.length):=by
    have hl:(l.take m.length).length=m.length:=by grind
    refine Or.inr ⟨g1,o1,c1,by rw[hl],by omega,b2,t1.1,fun k hk=>?_⟩;rw[t1.2 k (by omega)];simp
   have HC:=Ab (Jv hT h2);have HE:=Ab (show EX l m=(l.take m.length==m) by grind [EX,Bs,results203]);have e1:decide ((m.length:Int)<(l.length:Int))=true:=by grind
   have l1:(m.length:Int)<(l.length:Int):=by omega
   have l2:m.length<=c1:=by omega
   have l4:(0:Int)<=(m.length:Int):=by omega
   generalize m.length=M at *;generalize l.length=LL at *;clear hT h2 t1
   go_enter func203,ntmps203
   go_wp2_with (fail);refine (Aa HC).mono ?_
   rintro e w2 ⟨rfl,hb⟩
   go_wp2_with (fail);refine A3 (v:=.bool (l.take M==m)) (by simp[Bs,results203,go_sem]) rfl ⟨by rw[Aa HE],hb⟩
 ·have HE:=Ab (show EX l m=false by grind [EX,Bs,results203]);obtain⟨a1,c1,f1⟩:=h1.form;have q4:v1=.slice a1 l.length c1:=by grind
  clear f1;subst q4;have e1:decide ((m.length:Int)<(l.length:Int))=false:=by grind
  have l1:¬ (m.length:Int)<(l.length:Int):=by omega
  generalize m.length=M at *;generalize l.length=LL at *;clear h1 h2
  go_enter func203,ntmps203
  go_wp2_with (fail);refine A3 (v:=.bool false) (by simp[Bs,results203,go_sem]) rfl ⟨by rw[Aa HE],A2 _ _⟩
end Go.Proofs.YtdpomdelmdofmaaGreatDoor
