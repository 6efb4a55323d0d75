import Derived.Test.YtdpomdelmdofmaaGreatDoorRea33
import Derived.Laws.BytesArg
import Derived.Laws.IdiomStrings
import Derived.Lib.MapLaws
import Derived.Lib.SplitLaws
open List renaming length_cons->AI,mem_cons->BY
open Go.Lib renaming index->AS,splitK->Bs,cut->CL
open Go.Proofs.Tryz renaming prog->AT
open Nat renaming le_succ_of_le->A1,le_refl->A3,add_comm->CD
open Go renaming World->A2,Calls->CH
open Go.RowKit renaming Below->A4
open Go.RowKit.Below renaming refl->A5
open Go.Value renaming ownBlock->A6
set_option maxRecDepth 100000
set_option maxHeartbeats 8000000
namespace Go.Proofs.YtdpomdelmdofmaaGreatDoor
open Go.Proofs.Tryz Go.RowKit
variable{w:A2}{l:By}{g:Nat}{ps:List By}
theorem WR(t:ByteArray)(p n:Nat):(t.extract p (p+n)).data.toList=(t.data.toList.drop p).take n:=by
 simp_all
theorem Mx.kept{w':A2}(h:Mx w)(hb:A4 w.heap.size w w'):Mx w':=by
 obtain⟨m,h⟩:=h;exact⟨m,(hb.cell (p:=⟨6,0,none⟩) (Lib.lt_of_cell h)).trans h⟩
theorem Zl(l:By)(w:A2)(h:l.length<=1048576)(hm:Mx w):
  CH AT 145 #[.string ⟨l.toArray⟩,.string ⟨#[126]⟩] w fun e w'=>e=.returned (.tuple #[.string ⟨(CL l [126]).1.toArray⟩,.string ⟨(CL l [126]).2.1.toArray⟩,.bool (CL l [126]).2.2]) /\ ∃n,w'=w.drewN n:=by
 obtain⟨m,hm⟩:=hm;exact Tryz.strings_Cut ⟨l.toArray⟩ ⟨#[126]⟩ m w (by rw[Bc];omega) hm
theorem cQ{x:ByteArray}(h:x.data.toList=l):x=⟨l.toArray⟩:=by
 cases x with
 | mk d=>simp at h;subst h;simp
theorem OW(l:By)(k:Nat):(⟨l.toArray⟩:ByteArray).extract k l.length=⟨(l.drop k).toArray⟩:=by
 apply cQ;by_cases hk:k<=l.length
 ·have h1:=WR ⟨l.toArray⟩ k (l.length-k);rw[show k+(l.length-k)=l.length by omega] at h1;rw[h1];show (l.drop k).take (l.length-k)=l.drop k;exact List.take_of_length_le (by simp)
 ·rw[List.drop_eq_nil_of_le (by omega)];apply List.eq_nil_of_length_eq_zero;simp;omega
def ZA(o:Option By)(e:Ending):Prop:=match o with
 | some s=>e=.returned (.tuple #[.string ⟨s.toArray⟩,.bool true])
 | none=>e=.returned (.tuple #[.string ⟨#[]⟩,.bool false])
theorem NM(hn:l.length<=1048576)(hT:ET w)(hm:Mx w):
  CH AT 110 #[.string ⟨l.toArray⟩] w fun e w'=>ZA (eO l) e/\A4 w.heap.size w w':=by
 have qh:=(A5 w.heap.size w).alloc (A3 _) (.cells #[.pointer none,.slice none 0 0] 119);have h0:Bu w.heap.size w.heap.size [] (w.alloc (.cells #[.pointer none,.slice none 0 0] 119)):=Or.inl ⟨A3 _,.slice none 0 0,by show (w.heap.push _)[w.heap.size]? = _;simp,World.ownsRow_nil _ _ _ _,by simp[A6]⟩;have HT:=Ab hT;have HM:=Ab hm;have qj:=Ab qh;have H0:=Ab h0;have HN:=Ab hn;clear hT hm qh h0 hn
 go_enter func110,ntmps110
 go_wp2_with (fail)
 go_loopw [0] (fun a wr=>∃l' q4,a=.string ⟨l'.toArray⟩/\Hid (Bu w.heap.size w.heap.size q4 wr)/\Hid (A4 w.heap.size w wr)/\Hid (eO l=(eO l').map (q4 ++ ·))/\q4.length+l'.length<=l.length)
  (fun a _=>match a with | .string s=>s.size|_=>0)
 case atStart=>exact⟨l,[],rfl,H0,qj,by show eO l=_;simp_all,by simp⟩
 case round=>
  obtain⟨l',q4,rfl,qf,HB,HE,qn⟩:=hrel;have hn:=Aa HN;have hcut:=Ab (Zl l' wr (by omega) ((Aa HM).kept (Aa HB)));have hsz:=(Aa HB).size;rcases QL l' with⟨h1,h2⟩|⟨h1,r,h2⟩
  ·rw[aQ h1] at hcut;have HV:=Ab (show eO l=some (q4++l') by rw[Aa HE,Zy h2];rfl);clear h1 h2
   go_wp2_with (fail);refine (Aa hcut).mono ?_
   rintro e w2 ⟨rfl,q,rfl⟩
   go_wp2_with (fail);refine (JI l' (C8 (Aa qf) (Ff (A5 _ _) q)) (by omega) (by simp_all)).mono ?_
   rintro e w3 ⟨rfl,q0,q7⟩;have hb3:=(Ff (Aa HB) q).trans q7.low
   go_wp2_with (fail);refine (Tryz.Builder_String_any w.heap.size w.heap.size _ w3 q0 (by have:=hb3.size;omega)).mono ?_
   rintro e w4 ⟨rfl,q5⟩
   go_wp2_with (fail)
   go_ret2
   exact⟨by rw[Aa HV];rfl,hb3.trans q5⟩
  ·rw[Zk h1 h2] at hcut;have hal:=aY l';have qe:=Ip (126::r) (Re l');rw[<- h2,XZ] at qe;have qq:(fV l').length+(r.length+1)=l'.length:=by
    grind
   have qg:=Ab qe;have H2:=Ab h2;generalize fV l'=p at *;clear qe h1 h2
   go_wp2_with (fail);refine (Aa hcut).mono ?_
   rintro e w2 ⟨rfl,q,rfl⟩
   go_wp2_with (fail);refine (JI p (C8 (Aa qf) (Ff (A5 _ _) q)) (by omega) (by simp_all)).mono ?_
   rintro e w3 ⟨rfl,q0,q7⟩;have q8:=Ab ((Ff (Aa HB) q).trans q7.low);have qb:=Ab q0;have hx:(⟨l'.toArray⟩:ByteArray).extract p.length l'.length=⟨(126::r).toArray⟩:=by
    rw[OW,Aa H2];simp
   have qo:(⟨l'.toArray⟩:ByteArray).size=l'.length:=Bc _;have qr:(p.length:Int)<=((⟨l'.toArray⟩:ByteArray).size:Int):=by omega
   clear q0 q7
   go_wp2_with (fail);refine (PI (126::r) w3 ((Aa HT).kept (Aa q8))).mono ?_
   rintro e w4 ⟨rfl,q5⟩;have q9:=Ab ((Aa q8).trans (q5.mono (Aa q8).size));have qd:=Ab (C8 (Aa qb) q5);clear q5;cases hpe:iI (126::r) with
   | none=>
    have HV:=Ab (show eO l=none by
     have h9:=Aa qg;rw[hpe] at h9;rw[Aa HE,h9];rfl)
    clear hpe;unfold Lz
    go_wp2_with (fail)
    go_ret2
    exact⟨by rw[Aa HV];rfl,Aa q9⟩
   | some c=>
    have HV:=Ab (show eO l=(eO ((126::r).drop 2)).map (q4++p++[c] ++ ·) by
     have h9:=Aa qg;rw[hpe] at h9;rw[Aa HE,h9];cases eO ((126::r).drop 2)<;>simp)
    have qt:1<=r.length:=by
     cases r with
     | nil=>cases hpe
     | cons _ _=>simp
    have qu:(⟨(126::r).toArray⟩:ByteArray).extract 2 (126::r).length=⟨((126::r).drop 2).toArray⟩:=OW _ _;have hs2:(⟨(126::r).toArray⟩:ByteArray).size=r.length+1:=by rfl
    clear hpe hx;unfold Lz
    go_wp2_with (fail);refine (BB c _ rfl (Aa qd) (by grind) (Aa q9).size).mono ?_
    rintro e w5 ⟨rfl,q6,qi⟩;have qk:=Ab q6;have qp:=Ab ((Aa q9).trans qi.low);have qm:(2:Int)<=((⟨(126::r).toArray⟩:ByteArray).size:Int):=by omega
    clear q6 qi
    go_wp2_with (fail)
    grind [eO,List.length_append,AI,Bc,List.length_drop,Lz,fV,A6]
theorem ZQ(l:By):eU l≠[]:=by
 cases l with
 | nil=>intro h;cases h
 | cons c r=>
  unfold eU
  grind
theorem Ul:∀l:By,(AS l [47] = -1/\l.count 47=0/\eU l=[l])\/(AS l [47]=(iF l).length /\ ∃r,l=iF l++47::r/\l.count 47=r.count 47+1/\eU l=iF l::eU r)
 | []=>Or.inl ⟨rfl,rfl,rfl⟩
 | b::l=>by
  by_cases hb:b=47
  ·subst hb;exact Or.inr ⟨by rfl,l,by rfl,by simp,by rfl⟩
  ·have h1:iF (b::l)=b::iF l:=by simp[iF,hb]
   have h2:AS (b::l) [47]=if AS l [47]==-1 then -1 else AS l [47]+1:=by
    grind [iF,eU,AS]
   have h3:(b::l).count 47=l.count 47:=by grind
   have h4:eU (b::l)=match eU l with|p::ps=>(b::p)::ps|[]=>[[b]]:=by
    grind [iF,eU,AS]
   rw[h1,h2,h3,h4];rcases Ul l with⟨e1,e2,e3⟩|⟨e1,r,e2,e3,e4⟩
   ·grind
   grind
theorem PC(q0:By)(k:Nat)(l:By):Bs q0 0 (k+1) l=if AS l q0==-1 then [l] else l.take ((AS l q0).toNat+0)::Bs q0 0 k (l.drop ((AS l q0).toNat+q0.length)):=rfl
theorem L7:∀ (n:Nat) (l:By),l.length<=n->Bs [47] 0 (l.count 47) l=eU l
 | n,l,hn=>by
  rcases Ul l with⟨e1,e2,e3⟩|⟨e1,r,e2,e3,e4⟩
  ·rw[e2,e3];rfl
  ·have hr:r.length<l.length:=by
    grind
   rw[e3,e4]
   match n with
   | 0=>omega
   | n+1=>
    rw[<- L7 n r (by omega)];rw[PC,e1,if_neg (by simp)];simp only[Int.toNat_natCast,Nat.add_zero];have t1:l.take (iF l).length=iF l:=by
     grind
    have t2:l.drop ((iF l).length+[(47:UInt8)].length)=r:=by
     have h1:(iF l++47::r).drop ((iF l).length+1)=r:=by
      rw[<- List.drop_drop,List.drop_left' rfl];rfl
     grind
    rw[t1,t2]
theorem SZ(l:By)(w:A2)(h:l.length<=1048576)(hT:Ai w):
  CH AT 108 #[.string ⟨l.toArray⟩] w fun e w'=>e=.returned (.bool (Lib.validD l))/\A4 w.heap.size w w':=
 Any.utf8_ValidString Tryz.lays196 ⟨l.toArray⟩ w (by rw[Bc];omega) hT.utf8
def EG(ps:List By):List Value:=ps.map fun p=>.string ⟨p.toArray⟩
theorem U7(l:By):Lib.countB ⟨l.toArray⟩ ⟨#[47]⟩=l.count 47:=Lib.count_one 47 l
theorem Kq(l:By):(Lib.splitB ⟨#[47]⟩ 0 (l.count 47) ⟨l.toArray⟩).map Value.string=EG (eU l):=by
 have h:=Lib.splitB_data ⟨#[47]⟩ 0 (l.count 47) ⟨l.toArray⟩;have h2:(Lib.splitB ⟨#[47]⟩ 0 (l.count 47) ⟨l.toArray⟩).map (·.data.toList)=eU l:=h.trans (L7 l.length l (A3 _))
 unfold EG;rw[<- h2,List.map_map];rfl
theorem Qt(l:By):(eU l).length=l.count 47+1:=by
 have h:=congrArg List.length (Kq l);have h1:=Lib.splitB_all ⟨#[47]⟩ (by decide) 0 (l.count 47) ⟨l.toArray⟩ (U7 l);rw[List.length_map] at h;unfold EG at h
 grind
theorem Ti(l:By)(w:A2)(h:l.length<=1048576)(hm:Mx w):
  CH AT 109 #[.string ⟨l.toArray⟩,.string ⟨#[47]⟩] w fun e w'=>e=.returned (.slice (some ⟨w.heap.size,0,none⟩) (eU l).length (eU l).length)/\w'=w.alloc (.cells (EG (eU l)).toArray 9):=by
 obtain⟨m,hm⟩:=hm;have c:=Any.strings_Split Tryz.lays146 (by kernel_rfl) ⟨l.toArray⟩ ⟨#[47]⟩ m w (by rw[Bc];omega) hm (by decide);rw[U7,Kq,<- Qt] at c;exact c
def Ee(w:A2)(g:Nat)(ps:List By):Prop:=w.heap[g]? = some (.cells (EG ps).toArray 9 (0,0))
theorem Ee.cell(h:Ee w g ps)(k:Nat)(hk:k<ps.length):w.cell? ⟨g,k,none⟩=some (.string ⟨ps[k].toArray⟩):=by
 simp[World.cell?,show w.heap[g]? = _ from h,EG,hk]
theorem Ee.lt(h:Ee w g ps):g<w.heap.size:=(Array.getElem?_eq_some_iff.1 h).1
theorem Ee.bel{w':A2}(h:Ee w g ps)(hb:A4 w.heap.size w w'):Ee w' g ps:=(hb.block g h.lt).trans h
theorem Ee.fz(h:Ee w g ps)(k:Nat):w.frozen? ⟨g,k,none⟩=false:=by
 simp[World.frozen?,show w.heap[g]? = _ from h]
theorem dM{α:Type}(v b:α)(c:List α):∀a:List α,(a++b::c).set a.length v=a++v::c
 | []=>rfl
 | x::a=>by
  grind
theorem Ee.set{ks rest:List By}{t s:By}(h:Ee w g ([]::(ks++t::rest))):Ee (w.setCell ⟨g,1+ks.length,none⟩ (.string ⟨s.toArray⟩)) g ([]::((ks++[s])++rest)):=by
 have e:(EG ([]::(ks++t::rest))).toArray.setIfInBounds (1+ks.length) (.string ⟨s.toArray⟩)=(EG ([]::((ks++[s])++rest))).toArray:=by
  rw[List.setIfInBounds_toArray];congr 1;unfold EG
  grind
 unfold Ee;rw[<- e];simp only[World.setCell,Array.getElem?_modify];rw[if_pos trivial,show w.heap[g]? = _ from h];rfl
theorem JC{t:By}{rest:List By}:gC (t::rest)=match eO t with|none=>none|some k=>(gC rest).map (k :: ·):=rfl
theorem Kv:∀ (l:By),∀t∈eU l,t.length<=l.length
 | [],t,h=>by
  have:t=[]:=by simpa[eU] using h
  grind
 | c::r,t,h=>by
  unfold eU at h;split at h
  ·rcases BY.1 h with e|e
   ·grind
   ·exact A1 (Kv r t e)
  ·split at h
   ·rename_i p ps hp;rcases BY.1 h with e|e
    ·rw[e];exact Nat.succ_le_succ (Kv r p (by grind))
    ·exact A1 (Kv r t (by grind))
   grind
def ZM(o:Option (List By))(e:Ending)(w':A2):Prop:=match o with
 | some ks=>∃v,e=.returned (.tuple #[v,.bool true])/\CW w' v ks
 | none=>e=.returned (.tuple #[.slice none 0 0,.bool false])
def GK(lo:Nat)(o:Option (List By))(e:Ending)(w':A2):Prop:=match o with
 | some ks=>∃v,e=.returned (.tuple #[v,.bool true])/\CW w' v ks /\ ∀g,v.ownBlock=some g->lo<=g
 | none=>e=.returned (.tuple #[.slice none 0 0,.bool false])
theorem Mp(hn:l.length<=1048576)(hT:Ai w)(hP:ET w)(hm:Mx w):
  CH AT 80 #[.string ⟨l.toArray⟩] w fun e w'=>GK w.heap.size (fL l) e w'/\A4 w.heap.size w w':=by
 have hv:=Ab (SZ l w hn hT);obtain⟨R,hR⟩:∃R,R=fL l:=⟨_,rfl⟩
 rw[<- hR];have HR:=Ab hR;have HM:=Ab hm;have HP:=Ab hP;clear hR hm hP hT;cases hva:Lib.validD l with
 | false=>
  have HV:=Ab (show R=none by rw[Aa HR];unfold fL;rw[hva];rfl);rw[hva] at hv;clear hva
  go_enter func80,ntmps80
  go_wp2_with (fail);refine (Aa hv).mono ?_
  rintro e w1 ⟨rfl,hb1⟩
  go_wp2_with (fail)
  go_ret2
  exact⟨by rw[Aa HV];rfl,hb1⟩
 | true=>
  have HV:=Ab (show R=match eU l with|[]::r=>gC r|_=>none by rw[Aa HR];unfold fL;rw[hva];rfl);rw[hva] at hv;clear hva
  go_enter func80,ntmps80
  go_wp2_with (fail);refine (Aa hv).mono ?_
  rintro e w1 ⟨rfl,hb1⟩;have qd:=Ab hb1;have qp:=Ab (Ti l w1 hn ((Aa HM).kept hb1));clear hb1 hv
  go_wp2_with (fail);refine (Aa qp).mono ?_
  rintro e w2 ⟨rfl,rfl⟩;have HN:=Ab (Qt l);have hcl:l.count 47<=l.length:=List.count_le_length;have h0:Ee (w1.alloc (.cells (EG (eU l)).toArray 9)) w1.heap.size (eU l):=by
   show (w1.heap.push _)[w1.heap.size]? = _;simp
  have qo:=(Aa qd).alloc (Aa qd).size (.cells (EG (eU l)).toArray 9);have qz:w1.heap.size<(w1.alloc (.cells (EG (eU l)).toArray 9)).heap.size:=by simp
  have q8:=Ab qo;have hG:=(Aa qd).size;clear qo;have qn:=Ab (Kv l);cases hpc:eU l with
  | nil=>exact absurd hpc (ZQ l)
  | cons t0 q0=>
   rw[hpc] at h0 HV q8 HN qn;have qi:q0.length<=1048576:=by have:=Aa HN;simp only[AI] at this;omega
   generalize w1.alloc (.cells (EG (t0::q0)).toArray 9)=w2 at *;have c0:=h0.cell 0 (by simp);simp only[List.getElem_cons_zero] at c0;have H0:=Ab h0;clear hpc h0 qp;cases t0 with
   | cons a q=>
    have qr:=Ab (show R=none from Aa HV)
    go_wp2_with (fail)
    go_ret2
    exact⟨by rw[Aa qr];rfl,Aa q8⟩
   | nil=>
    have qg:=Ab (show R=gC q0 from Aa HV);have qu:=Ab (show ∀t∈q0,t.length<=1048576 from fun t ht=>Nat.le_trans (Aa qn t (List.mem_cons_of_mem _ ht)) hn);clear HV;simp only[AI];by_cases qb:q0=[]
    ·have qe:=Ab (show R=some [] by rw[Aa qg,qb];rfl);subst qb;simp only[List.length_nil]
     go_wp2_with (fail);refine wp_loop_rounds 1 ?_
     rw[rounds_succ]
     go_wp2_with (fail)
     go_ret2
     exact⟨by rw[Aa qe];exact⟨_,rfl,Or.inl ⟨rfl,_,_,rfl,by unfold maxLen;omega⟩,fun g h=>by cases h;exact hG⟩,Aa q8⟩
    ·obtain⟨N,hN⟩:∃N,N=q0.length:=⟨_,rfl⟩
     have hpos:0<N:=by rw[hN];exact List.length_pos_iff.2 qb
     have qt:=Ab hN;rw[<- hN];have z1:(N:Int)<=1048576:=by omega
     have z6:(1:Int)<=(N:Int)+1:=by omega
     clear hN qi HN qb
     go_wp2_with (fail)
     go_loopw [23] (fun i wr=>∃ (ks rest:List By),i=.int .i64 ks.length/\ks.length+rest.length=N/\Hid (Ee wr w1.heap.size ([]::(ks++rest)))/\Hid (A4 w.heap.size w wr)/\Hid (gC q0=(gC rest).map (ks ++ ·))/\Hid (∀t∈rest,t.length<=1048576))
      (fun i _=>N-(intOf i).toNat)
     case atStart=>exact⟨[],q0,rfl,by have:=Aa qt;simp;omega,H0,q8,by show gC q0=_;cases gC q0<;>rfl,qu⟩
     case round=>
      obtain⟨ks,rest,rfl,qh,q9,HB,HE,qm⟩:=hrel;cases rest with
      | nil=>
       have qw:ks.length=N:=by simpa using qh
       have qf:=Ab (show ∀cap,N<=cap->cap<=maxLen->GK w.heap.size R (.returned (.tuple #[.slice (some ⟨w1.heap.size,1,none⟩) N cap,.bool true])) wr from fun cap qy qv=>by
        rw[Aa qg,Aa HE];refine⟨_,rfl,Or.inr ⟨_,1,cap,?_,?_,qv,(Aa q9).lt,fun k hk=>?_⟩,fun g h=>(by cases h;exact hG)⟩
        ·simp[qw]
        ·simp;omega
        ·have hk2:k<ks.length:=by simpa using hk
         have h9:=(Aa q9).cell (1+k) (by simp;omega)
         grind)
       have qj:¬ ((ks.length:Nat):Int)<(N:Int):=by omega
       go_wp2_with (fail)
       go_ret2
       exact⟨Aa qf _ (by omega) (by unfold maxLen;omega),Aa HB⟩
      | cons t r=>
       have qj:((ks.length:Nat):Int)<(N:Int):=by simp only[AI] at qh;omega
       have c1:wr.cell? ⟨w1.heap.size,1+ks.length,none⟩=some (.string ⟨t.toArray⟩):=by
        rw[(Aa q9).cell (1+ks.length) (by simp;omega)];simp[CD 1 ks.length]
       have q4:=Ab (NM (l:=t) (Aa qm t (by simp)) ((Aa HP).kept (Aa HB)) ((Aa HM).kept (Aa HB)));clear c0
       go_wp2_with (fail);refine (Aa q4).mono ?_
       rintro e w3 ⟨q7,hb3⟩;have qk:=Ab ((Aa HB).trans (hb3.mono (Aa HB).size));have q5:=Ab ((Aa q9).bel hb3);clear hb3 q4 c1;cases hun:eO t with
       | none=>
        rw[hun] at q7;have q6:e=.returned (.tuple #[.string ⟨#[]⟩,.bool false]):=q7;subst q6;have qe:=Ab (show R=none by rw[Aa qg,Aa HE,JC,hun];rfl);clear q7 hun
        go_wp2_with (fail)
        go_ret2
        exact⟨by rw[Aa qe];rfl,Aa qk⟩
       | some s=>
        rw[hun] at q7;have q6:e=.returned (.tuple #[.string ⟨s.toArray⟩,.bool true]):=q7;subst q6;have qq:=Ab (show gC q0=(gC r).map ((ks++[s]) ++ ·) by
         rw[Aa HE,JC,hun];cases gC r<;>simp)
        have fz:=(Aa q5).fz (1+ks.length);have c3:w3.cell? ⟨w1.heap.size,1+ks.length,none⟩=some (.string ⟨t.toArray⟩):=by
         rw[(Aa q5).cell (1+ks.length) (by simp;omega)];simp[CD 1 ks.length]
        clear q7 hun
        go_wp2_with (fail);refine⟨⟨ks++[s],r,by simp,?_,(Aa q5).set,(Aa qk).setCell (p:=⟨w1.heap.size,1+ks.length,none⟩) hG _,qq,fun t' qx=>Aa qm t' (by simp[qx])⟩,?_⟩
        ·grind
        ·simp only[AI] at qh;simp only[intOf];omega
theorem Mq(hn:l.length<=1048576)(hT:Ai w)(hP:ET w)(hm:Mx w):
  CH AT 80 #[.string ⟨l.toArray⟩] w fun e w'=>ZM (fL l) e w'/\A4 w.heap.size w w':=by
 refine (Mp hn hT hP hm).mono ?_;rintro e w' ⟨h,hb⟩;refine⟨?_,hb⟩;cases ho:fL l with
 | none=>rw[ho] at h;exact h
 | some ks=>
  rw[ho] at h;obtain⟨v,h1,h2,_⟩:=h;exact⟨v,h1,h2⟩
end Go.Proofs.YtdpomdelmdofmaaGreatDoor
